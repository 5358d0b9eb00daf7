import PyProof.Rows.All
import Wide.All
import OpenK.AllK
import Wide.FinOn
import Lean
import PyProof.EqAt
import PyProof.EqKinds
import PyProof.TupleCall
import PyProof.NeKinds
import PyProof.ZipIter
import PyProof.ReprRoads
import Wide.Words
import PyProof.Rows.MinMaxN
import KE.KIntText
import PyProof.StrWalks
import PyProof.StrLawsJoin
import KE.KSortKey
import KE.KDictOf
import KE.KItemsList
import PyProof.AttrMissHeap
import PyProof.Rows.SetFrom
import PyProof.DictIter
import PyProof.Rows.SortShell
import KE.KDictSum
import KE.KRevIter
import PyProof.EnumMake
import PyProof.EnumFor
import PyProof.WalksEnum
import PyProof.Rows.EnumRows
import PyProof.FactsAll.range_2
import PyProof.AutoRange
import PySem.Challenge.RW_healhalves_k15_lost_by_all_cores
set_option linter.all false
def wA:=@Option.map_eq_some_iff
def wB:=@List.getElem?_eq_some_iff
def wC:=@List.getElem?_append_left
def wD:=@List.getElem?_eq_getElem
def wE:=@Bool.and_eq_true
def wF:=@Nat.le_refl
def wG:=@Nat.lt_of_lt_of_le
def wH:=@Nat.le_trans
def wI:=@List.mem_cons_of_mem
def wJ:=@List.getD_eq_getElem?_getD
def wK:=@Option.bind_eq_some_iff
def wL:=@List.mem_append
def wM:=@List.size_toArray
def wN:=@List.mem_cons_self
def wO:=@List.length_map
def wP:=@List.mem_cons
def wQ:=@List.mem_append_left
def wR:=@List.getElem?_append_right
def wS:=@List.mem_of_getElem?
def wT:=@List.mem_append_right
def wU:=@Nat.ne_of_lt
def wV:=@List.getElem?_set_ne
def wW:=@List.length_append
def wX:=@List.append_nil
def wY:=@List.mem_singleton
def wZ:=@List.getElem?_set_self
def wa:=@Array.length_toList
def wb:=@List.length_filter_le
def wc:=@List.length_eq_zero_iff
def we:=@Nat.pow_le_pow_right
def wf:=@Nat.lt_irrefl
def wg:=@List.mem_range
def wj:=@Bool.eq_iff_iff
def wl:=@List.getElem?_map
def wm:=@List.append_assoc
def wn:=@Nat.add_sub_cancel_left
def wo:=@List.filter_cons_of_pos
def wq:=@List.forall_mem_cons
def wt:=@List.not_mem_nil
def wu:=@List.getElem?_take_of_lt
def wv:=@Nat.le_of_lt
def wx:=@Nat.lt_trans
def wy:=@Nat.pow_succ
def wz:=@Bool.false_ne_true
def vA:=@List.all_eq_true
def vB:=@List.filter_cons_of_neg
def vC:=@Int.toNat_natCast
def vD:=@Bool.and_false
def vE:=@List.nodup_append
def vF:=@Nat.testBit_lt_two_pow
def vG:=@List.mem_filter
def vH:=@List.map_append
def vI:=@List.length_take
def vJ:=@List.length_drop
def vK:=@Bool.false_eq_true
def vL:=@List.map_map
def vM:=@Nat.zero_le
def vN:=@List.mem_map
def vO:=@List.lookup_append
def vP:=@List.pairwise_cons
def vQ:=@List.findIdx?_eq_some_iff_getElem
def vR:=@List.nodup_cons
def vS:=@List.mem_iff_getElem
def vT:=@Bool.and_true
def vU:=@Nat.lt_succ_self
def vV:=@List.getElem_mem
def vW:=@List.eq_nil_of_length_eq_zero
def vX:=@List.pairwise_lt_range
def vY:=@List.getElem?_drop
def vZ:=@List.filter_eq_nil_iff
def va:=@Bool.or_eq_true
def vb:=@List.dropLast_concat_getLast
def vc:=@List.getElem_toArray
def vd:=@List.nodup_nil
def ve:=@List.any_eq_true
def vf:=@List.filterMap_cons
def vg:=@List.length_zipWith
def vh:=@List.getElem?_range
def vi:=@Nat.ne_of_gt
def vj:=@Nat.lt_succ_of_lt
def vk:=@List.pairwise_map
def vm:=@Bool.false_xor
def vn:=@Bool.xor_false
def vo:=@List.set_append_right
def vp:=@List.range'_succ
def vq:=@List.ext_getElem
def vt:=@Nat.le_add_right
def vw:=@List.drop_eq_nil_iff
def vy:=@List.range_eq_range'
def vz:=@List.of_mem_zip
def uA:=@Bool.or_true
def uB:=@Bool.false_and
def uC:=@Nat.mod_lt
open PySem PySem.Spec in def uD:=@wpAny_bind
open PySem PySem.Spec in def uE:=@wpAny_pure
def uF:=@decide_eq_false
def uG:=@decide_eq_true
def uH:=@decide_eq_true_eq
def uI:=@of_decide_eq_true
open PySem PySem.Spec in def uJ:=@wpAny_truthy_bool
def uK:=@beq_self_eq_true
set_option bootstrap.genMatcherCode false
set_option compiler.extract_closed false
set_option genSizeOf false
set_option genSizeOfSpec false
set_option Elab.async false
set_option maxRecDepth 100000
namespace _L
open PySem PySem.Spec PyProof.Rows
noncomputable abbrev Key:=Sum Int Str
noncomputable def P1:Key->Value->Bool
 | .inl k,v=>Value.isInt k v
 | .inr x,v=>Value.isStrOf x v
noncomputable def qF3(w:World):Key->Int
 | .inl k=>hashInt k
 | .inr x=>hashStr w x
theorem qa:∀{k:Key}{v:Value},P1 k v=true->(∃i t,k=Sum.inl i/\v=Value.int i t)\/(∃x t,k=Sum.inr x/\v=Value.str x t)
 | .inl i,v,h=>by
  obtain⟨t,e⟩:=Value.isInt_shape (k:=i) (v:=v) h;exact .inl ⟨i,t,rfl,e⟩
 | .inr x,v,h=>by
  obtain⟨t,e⟩:=Value.isStrOf_shape (x:=x) (v:=v) h;exact .inr ⟨x,t,rfl,e⟩
theorem V1(i:Int)(t:Tok):P1 (.inl i) (.int i t)=true:=by simp[P1,Value.isInt]
theorem Z0(x:Str)(t:Tok):P1 (.inr x) (.str x t)=true:=by simp[P1,Value.isStrOf]
theorem qDi(a b:Int):decide ((Sum.inl a:Key)=Sum.inl b)=(a==b):=by
 by_cases e:a=b
 ·subst e;simp
 ·have h:¬ (Sum.inl a:Key)=Sum.inl b:=λq=>e (Sum.inl.inj q);rw[uF h];exact(beq_eq_false_iff_ne.mpr e).symm
theorem qCw(a b:Str):decide ((Sum.inr a:Key)=Sum.inr b)=decide (a=b):=by
 by_cases e:a=b
 ·subst e;simp
 ·have h:¬ (Sum.inr a:Key)=Sum.inr b:=λq=>e (Sum.inr.inj q);rw[uF h,uF e]
theorem qDn(a:Int)(b:Str):decide ((Sum.inl a:Key)=Sum.inr b)=false:=uF (λq=>nomatch q)
theorem qCR(a:Str)(b:Int):decide ((Sum.inr a:Key)=Sum.inl b)=false:=uF (λq=>nomatch q)
noncomputable def qh(prog:Program)(w:World):PySem.KeyKind prog w Key where
 is:=P1
 hash:=qF3 w
 inj:=λv a b ha hb=>by
  rcases qa ha with⟨i,t,rfl,rfl⟩|⟨x,t,rfl,rfl⟩
  ·rcases qa hb with⟨j,u,rfl,e⟩|⟨y,u,rfl,e⟩
   ·injection e with e1 _;rw[e1]
   ·exact nomatch e
  ·rcases qa hb with⟨j,u,rfl,e⟩|⟨y,u,rfl,e⟩
   ·exact nomatch e
   ·injection e with e1 _;rw[e1]
 byValue:=λk v h=>by
  rcases qa h with⟨i,t,rfl,rfl⟩|⟨x,t,rfl,rfl⟩<;>rfl
 pyHash:=λhv h=>by
  rcases qa hv with⟨i,t,rfl,rfl⟩|⟨x,t,rfl,rfl⟩
  ·exact wpAny_pyHash_int h
  ·exact wpAny_pyHash_str h
 eqBool:=λhu hv h=>by
  rcases qa hu with⟨i,t,rfl,rfl⟩|⟨x,t,rfl,rfl⟩
  ·rcases qa hv with⟨j,u,rfl,rfl⟩|⟨y,u,rfl,rfl⟩
   ·rw[qDi]at h;exact wpAny_eqBool_int h
   ·rw[qDn]at h;exact SeqAt.EqAt.int_str i t y u _ _ _ _ h
  ·rcases qa hv with⟨j,u,rfl,rfl⟩|⟨y,u,rfl,rfl⟩
   ·rw[qCR]at h;exact SeqAt.EqAt.str_int x t j u _ _ _ _ h
   ·rw[qCw]at h;exact wpAny_eqBool_str h
 «strs»:=λk x t v h=>by
  rcases qa h with⟨i,u,rfl,e⟩|⟨y,u,rfl,e⟩
  ·exact nomatch e
  ·injection e with e1 _;subst e1;cases v<;>rfl
theorem D9(prog:Program)(w:World)(i:Int)(t:Tok):(qh prog w).is (.inl i) (.int i t)=true:=V1 i t
theorem C2(prog:Program)(w:World)(x:Str)(t:Tok):(qh prog w).is (.inr x) (.str x t)=true:=Z0 x t
inductive V where
 |non|bl (b:Bool)|int (i:Int)|str (x:Str)|byt (b:Array UInt8)|flt (b:UInt64)|ref (a:Addr)|ty (n:String)
 deriving DecidableEq
def RelV:V->Value->Prop
 | .non,u=>u=Value.none
 | .bl b,u=>u=Value.bool b
 | .int i,u=>∃t,u=Value.int i t
 | .str x,u=>∃t,u=Value.str x t
 | .byt b,u=>∃t,u=Value.bytes b t
 | .flt b,u=>∃t,u=Value.float b t
 | .ref a,u=>u=Value.ref a
 | .ty n,u=>u=Value.type n
abbrev Vals:List V->List Value->Prop:=Paired RelV
theorem Vals.length{xs:List V}{us:List Value}(r:Vals xs us):xs.length=us.length:=Paired.length r
theorem Vals.get:∀{xs:List V}{us:List Value}{i:Nat}{x:V},Vals xs us->xs[i]?=some x->∃u,us[i]?=some u/\RelV x u
 |_,_,_,_,.nil,e=>by simp at e
 |_,_,0,_,.cons r _,e=>by simp at e;subst e;exact⟨_,rfl,r⟩
 |_,_,i+1,x,.cons _ t,e=>by
  obtain⟨u,h1,h2⟩:=Vals.get (i:=i) (x:=x) t (by simpa using e);exact⟨u,by simpa using h1,h2⟩
theorem Vals.set{x:V}{u:Value}(r:RelV x u):∀{xs:List V}{us:List Value}(i:Nat),Vals xs us->Vals (xs.set i x) (us.set i u)
 |_,_,_,.nil=>.nil
 |_,_,0,.cons _ t=>.cons r t
 |_,_,i+1,.cons q t=>.cons q (Vals.set r i t)
theorem Vals.append:∀{xs ys:List V}{us ws:List Value},Vals xs us->Vals ys ws->Vals (xs++ys) (us++ws)
 |_,_,_,_,.nil,s=>s
 |_,_,_,_,.cons r t,s=>.cons r (Vals.append t s)
theorem Vals.take:∀{xs:List V}{us:List Value}(n:Nat),Vals xs us->Vals (xs.take n) (us.take n)
 |_,_,0,_=>.nil
 |_,_,_+1,.nil=>.nil
 |_,_,n+1,.cons r t=>.cons r (Vals.take n t)
theorem Vals.drop:∀{xs:List V}{us:List Value}(n:Nat),Vals xs us->Vals (xs.drop n) (us.drop n)
 |_,_,0,r=>r
 |_,_,_+1,.nil=>.nil
 |_,_,n+1,.cons _ t=>Vals.drop n t
def RelO:Option V->Option Value->Prop
 |some v,some u=>RelV v u
 |none,none=>True
 |_,_=>False
def KV{κ:Type}:List (κ×V)->List (κ×Value)->Prop:=Paired λ(p:κ×V) (q:κ×Value)=>p.1=q.1/\RelV p.2 q.2
noncomputable def kV:Key->V
 | .inl i=>.int i
 | .inr x=>.str x
inductive HO where
 |lst (xs:List V)
 |tup (xs:List V)
 |dK (kvs:List (Key×V))|dT (kvs:List (List Key×V))
 |set (S:Int->Bool) (n:Nat)
 |ins (C dx:Addr) (fs:List (Str×V))
 |own (x:Addr)
 |xd (fs:List (Str×V))
 |met (f x:Addr)
 |rng (lo hi:Int)
 |frz (o:Obj) (u:HO)
 |tbl (ps:Array Value)
 |ext (φ:Heap->Prop)
noncomputable abbrev Hp:=Addr->Option HO
noncomputable def upd(H:Hp)(a:Addr)(o:HO):Hp:=λb=>if b=a then some o else H b
theorem qD{H:Hp}{a:Addr}{o:HO}:upd H a o a=some o:=by unfold upd;rw[if_pos rfl]
theorem qE{H:Hp}{a b:Addr}{o:HO}(h:b≠a):upd H a o b=H b:=by unfold upd;rw[if_neg h]
theorem qEE{H:Hp}{a b:Addr}{o u:HO}(h:H a=some o)(h':H b=some u)(d:o≠u):a≠b:=by
 intro e;subst e;rw[h]at h';exact d (Option.some.inj h')
theorem ne_of_none{H:Hp}{a b:Addr}{o:HO}(h:H a=some o)(h':H b=none):a≠b:=by
 intro e;subst e;rw[h]at h';cases h'
section
variable (P:Program)(w:World)
def ObjOk(H:Hp)(h:Heap)(a:Addr):HO->Prop
 | .lst xs=>xs.length<=sizeLine/\∃(its:List Value) (n:Nat),Vals xs its/\h.get? a=some { cls:=.type "list",data:=.seq its.toArray n }
 | .tup xs=>xs.length<=sizeLine/\∃its:List Value,Vals xs its/\IsTup h a its.toArray
 | .dK kvs=>kvs.length<=sizeLine/\(a==sysModules)=false/\∃vs,KV kvs vs/\h.DictOf (qh P w) a vs
 | .dT kvs=>kvs.length<=sizeLine/\(a==sysModules)=false/\∃xs:List (List Key×Addr×Value),
   Paired (λ(p:List Key×V) (q:List Key×Addr×Value)=>p.1=q.1/\H q.2.1=some (.tup (p.1.map kV))/\RelV p.2 q.2.2) kvs xs/\
   ∃o es ep,h.get? a=some o/\o.ExactDict/\o.data=.dict es ep/\es.toList=xs.map (entryOfKey (tupleKind (qh P w)))/\(xs.map (·.1)).Nodup
 | .set S n=>h.SetOf (intKind P w) a S n
 | .ins C dx fs=>H dx=some (.own a)/\fs.length<=1000/\dx≠a/\h.get? a=some (PySem.W.instObj C dx)/\
   ∃mA,h.Ns1 dx mA/\(∀f,RelO (fs.lookup f) (mA f))/\PySem.Within mA (fs.map (·.1))
 | .own _=>∃o,h.get? a=some o
 | .xd fs=>∃mA,h.Ns1 a mA/\∀f,RelO (fs.lookup f) (mA f)
 | .rng lo hi=>∃t u v,h.get? a=some { cls:=.type "range",data:=.fields #[.int lo t,.int hi u,.int 1 v] }
 | .frz o u=>h.get? a=some o/\ObjOk H h a u
 | .tbl ps=>h.get? a=some { cls:=.none,data:=.fields ps }
 | .met f x=>h.get? a=some (PySem.W.methodObj (.ref f) (.ref x))
 | .ext φ=>φ h/\(∃o,h.get? a=some o)/\∀h1 h2:Heap,φ h1->(∀o,h1.get? a=some o->h2.get? a=some o)->φ h2
def HOk(H:Hp)(h:Heap):Prop:=∀a o,H a=some o->ObjOk P w H h a o
end
section
variable{P:Program}{w:World}{H H':Hp}{h h':Heap}{a:Addr}{o:HO}
theorem ObjOk.lt(x:ObjOk P w H h a o):a<h.objs.size:=by
 cases o with
 |lst xs=>obtain⟨_,_,_,_,e⟩:=x;exact Heap.lt_size e
 |tup xs=>obtain⟨_,_,_,p⟩:=x;exact p.lt
 |dK kvs=>obtain⟨_,_,_,_,o,_,_,e,_⟩:=x;exact Heap.lt_size e
 |dT kvs=>obtain⟨_,_,_,_,o,_,_,e,_⟩:=x;exact Heap.lt_size e
 |set S n=>obtain⟨o,_,_,_,e,_⟩:=x;exact Heap.lt_size e
 |ins C dx fs=>obtain⟨_,_,_,e,_⟩:=x;exact Heap.lt_size e
 |own y=>obtain⟨_,e⟩:=x;exact Heap.lt_size e
 |xd fs=>obtain⟨_,⟨_,_,_,e,_⟩,_⟩:=x;exact Heap.lt_size e
 |rng lo hi=>obtain⟨_,_,_,e⟩:=x;exact Heap.lt_size e
 |frz ob u=>obtain⟨e,_⟩:=x;exact Heap.lt_size e
 |tbl ps=>exact Heap.lt_size (show h.get? a=some _ from x)
 |met f y=>exact Heap.lt_size (show h.get? a=some _ from x)
 |ext φ=>obtain⟨_,⟨_,e⟩,_⟩:=x;exact Heap.lt_size e
theorem Paired.mapP{α β:Type}{F G:α->β->Prop}:∀{l₁:List α}{l₂:List β},Paired F l₁ l₂->(∀a b,F a b->G a b)->Paired G l₁ l₂
 |_,_,.nil,_=>.nil
 |_,_,.cons r t,f=>.cons (f _ _ r) (Paired.mapP t f)
theorem ObjOk.stay(x:ObjOk P w H h a o)(k:∀b u,(b=a\/H b=some (.own a))->h.get? b=some u->h'.get? b=some u)
  (ho:∀b,H b=some (.own a)->H' b=some (.own a)) (ht:∀b xs,H b=some (.tup xs)->H' b=some (.tup xs)):ObjOk P w H' h' a o:=by
 induction o with
 |lst xs=>obtain⟨z,its,n,r,e⟩:=x;exact⟨z,its,n,r,k _ _ (.inl rfl) e⟩
 |tup xs=>obtain⟨z,its,r,ob,e,c⟩:=x;exact⟨z,its,r,ob,k _ _ (.inl rfl) e,c⟩
 |dK kvs=>obtain⟨z,y,vs,r,ob,es,ep,e,c⟩:=x;exact⟨z,y,vs,r,ob,es,ep,k _ _ (.inl rfl) e,c⟩
 |dT kvs=>
  obtain⟨z,y,xs,r,ob,es,ep,e,c⟩:=x;exact⟨z,y,xs,Paired.mapP r λp q z=>⟨z.1,ht _ _ z.2.1,z.2.2⟩,ob,es,ep,k _ _ (.inl rfl) e,c⟩
 |set S n=>obtain⟨ob,es,ep,t,e,c⟩:=x;exact⟨ob,es,ep,t,k _ _ (.inl rfl) e,c⟩
 |ins C dx fs=>
  obtain⟨d,z,ne,e,mA,⟨od,es,ep,e2,c⟩,r⟩:=x;exact⟨ho _ d,z,ne,k _ _ (.inl rfl) e,mA,⟨od,es,ep,k _ _ (.inr d) e2,c⟩,r⟩
 |own y=>obtain⟨ob,e⟩:=x;exact⟨ob,k _ _ (.inl rfl) e⟩
 |xd fs=>obtain⟨mA,⟨od,es,ep,e,c⟩,r⟩:=x;exact⟨mA,⟨od,es,ep,k _ _ (.inl rfl) e,c⟩,r⟩
 |rng lo hi=>obtain⟨t,u,v,e⟩:=x;exact⟨t,u,v,k _ _ (.inl rfl) e⟩
 |frz ob u ih=>obtain⟨e,q⟩:=x;exact⟨k _ _ (.inl rfl) e,ih q⟩
 |tbl ps=>
  have e:h.get? a=some { cls:=.none,data:=.fields ps }:=x;show h'.get? a=some { cls:=.none,data:=.fields ps };exact k a _ (.inl rfl) e
 |met f y=>
  have e:h.get? a=some (PySem.W.methodObj (.ref f) (.ref y)):=x;show h'.get? a=some (PySem.W.methodObj (.ref f) (.ref y));exact k a _ (.inl rfl) e
 |ext φ=>obtain⟨p,⟨o,e⟩,st⟩:=x;exact⟨st _ _ p λo q=>k _ _ (.inl rfl) q,⟨o,k _ _ (.inl rfl) e⟩,st⟩
theorem HOk.lt(x:HOk P w H h)(e:H a=some o):a<h.objs.size:=(x a o e).lt
theorem HOk.fresh(x:HOk P w H h)(e:h.objs.size<=a):H a=none:=by
 cases q:H a with
 |none=>rfl
 |some u=>exact absurd (wG (x.lt q) e) (wf _)
theorem HOk.kept(x:HOk P w H h)(k:∀b u,h.get? b=some u->h'.get? b=some u):HOk P w H h':=λa o e=>
 (x a o e).stay (λb u _ q=>k b u q) (λ_ q=>q) λ_ _ q=>q
theorem HOk.laid(x:HOk P w H h)(k:∀b u,h.get? b=some u->h'.get? b=some u)(hp:h.objs.size<=a)(new:ObjOk P w (upd H a o) h' a o):HOk P w (upd H a o) h':=λb u e=>by
 have hn:=x.fresh hp;by_cases hb:b=a
 ·subst hb;rw[qD]at e;cases e;exact new
 ·rw[qE hb]at e;exact(x b u e).stay (λc v _ q=>k c v q) (λc q=>by rw[qE (ne_of_none q hn)];exact q) λc xs q=>by rw[qE (ne_of_none q hn)];exact q
end
def Rd(H:Hp)(a:Addr)(u:HO):Prop:=H a=some u\/∃o,H a=some (.frz o u)
theorem Rd.ok{P:Program}{w:World}{H:Hp}{h:Heap}{a:Addr}{u:HO}(r:Rd H a u)(x:HOk P w H h):ObjOk P w H h a u:=by
 rcases r with r|⟨o,r⟩
 ·exact x a u r
 ·obtain⟨_,q⟩:=x a _ r;exact q
def Mut:Option HO->Prop
 |some (.lst _)=>True
 |some (.dK _)=>True
 |some (.dT _)=>True
 |some (.set _ _)=>True
 |some (.ins _ _ _)=>True
 |some (.ext _)=>True
 |_=>False
section
variable{P:Program}{w:World}{H:Hp}{h h':Heap}{x e:Addr}{o':HO}
theorem HOk.write(ok:HOk P w H h)(mu:Mut (H x))(he:e=x\/H e=some (.own x))(k:∀b u,b≠e->h.get? b=some u->h'.get? b=some u)(heo:∃u,h'.get? e=some u)
  (new:ObjOk P w (upd H x o') h' x o'):HOk P w (upd H x o') h':=λb u q=>by
 have nown:∀c y,H c=some (.own y)->c≠x:=λc y r z=>by subst z;rw[r]at mu;exact mu
 have ntup:∀c xs,H c=some (.tup xs)->c≠x:=λc xs r z=>by subst z;rw[r]at mu;exact mu
 by_cases hb:b=x
 ·subst hb;rw[qD]at q;cases q;exact new
 ·rw[qE hb]at q;by_cases hbe:b=e
  ·have q':H b=some (.own x):=by
    rcases he with z|z
    ·exact absurd (hbe.trans z) hb
    ·rw[hbe];exact z
   rw[q]at q';cases q';obtain⟨v,hv⟩:=heo;exact⟨v,by rw[hbe];exact hv⟩
  ·refine(ok b u q).stay (λc v hc r=>k c v ?_ r) (λc r=>by rw[qE (nown c b r)];exact r) λc xs r=>by rw[qE (ntup c xs r)];exact r
   rcases hc with rfl|hc
   ·exact hbe
   ·rintro rfl;rcases he with z|z
    ·exact nown c b hc z
    ·rw[hc]at z;cases z;exact hb rfl
end
structure Un(fs ex:List Addr)(H H':Hp)(h h':Heap):Prop where
 keep:∀b o,h.get? b=some o->H b=none->b∉fs->b∉ex->h'.get? b=some o
 slot:∀b o,h.get? b=some o->H b=none->b∈fs->b∉ex->∃sl,h'.get? b=some { o with slots:=sl }
 free:∀b o,h.get? b=some o->H b=none->b∉ex->H' b=none
 there:∀b o,h.get? b=some o->b∉ex->∃o',h'.get? b=some o'
 tups:∀b xs,H b=some (.tup xs)->H' b=some (.tup xs)
 frzs:∀b o u,H b=some (.frz o u)->H' b=some (.frz o u)
 tbls:∀b ps,H b=some (.tbl ps)->∃more,H' b=some (.tbl (ps++more))
section
variable{fs fs' ex ex':List Addr}{H H1 H2:Hp}{h h1 h2 h':Heap}{a x e:Addr}{o:HO}
theorem Un.any(u:Un fs ex H H1 h h1){b:Addr}{ob:Obj}(q:h.get? b=some ob)(n:H b=none)(hx:b∉ex):∃sl,h1.get? b=some { ob with slots:=sl }:=by
 by_cases hb:b∈fs
 ·exact u.slot b ob q n hb hx
 ·exact⟨ob.slots,u.keep b ob q n hb hx⟩
theorem Un.kept(k:∀b u,h.get? b=some u->h'.get? b=some u):Un fs ex H H h h':=
 ⟨λb ob q _ _ _=>k b ob q,λb ob q _ _ _=>⟨ob.slots,k b ob q⟩,λ_ _ _ n _=>n,λb ob q _=>⟨ob,k b ob q⟩,λ_ _ q=>q,λ_ _ _ q=>q,λ_ ps q=>⟨#[],by rw[q];simp⟩⟩
theorem Un.refl:Un fs ex H H h h:=Un.kept λ_ _ q=>q
theorem Un.laid(k:∀b u,h.get? b=some u->h'.get? b=some u)(hp:h.objs.size<=a)(hn:H a=none):Un fs ex H (upd H a o) h h' where
 keep:=λb u q _ _ _=>k b u q
 slot:=λb u q _ _ _=>⟨u.slots,k b u q⟩
 free:=λb u q n _=>by rw[qE (wU (wG (Heap.lt_size q) hp))];exact n
 there:=λb u q _=>⟨u,k b u q⟩
 tups:=λb xs q=>by rw[qE (ne_of_none q hn)];exact q
 frzs:=λb u xs q=>by rw[qE (ne_of_none q hn)];exact q
 tbls:=λb ps q=>⟨#[],by rw[qE (ne_of_none q hn),q];simp⟩
theorem Un.write(mu:Mut (H x))(he:e=x\/H e=some (.own x))(k:∀b u,b≠e->h.get? b=some u->h'.get? b=some u)(heo:∃u,h'.get? e=some u):Un fs ex H (upd H x o) h h':=by
 have hx:∀b,H b=none->b≠x:=λb n z=>by subst z;rw[n]at mu;exact mu
 have hb:∀b,H b=none->b≠e:=λb n z=>by
  subst z;rcases he with r|r
  ·exact hx b n r
  ·rw[n]at r;cases r
 have hm:∀b u,H b=some u->¬ Mut (some u)->b≠x:=λb u q nm z=>by subst z;rw[q]at mu;exact nm mu
 refine⟨λb u q n _ _=>k b u (hb b n) q,λb u q n _ _=>⟨u.slots,k b u (hb b n) q⟩,λb u q n _=>by rw[qE (hx b n)];exact n,λb u q _=>?_,
  λb xs q=>by rw[qE (hm b _ q λz=>z)];exact q,λb u xs q=>by rw[qE (hm b _ q λz=>z)];exact q,λb ps q=>⟨#[],by rw[qE (hm b _ q λz=>z),q];simp⟩⟩
 by_cases hbe:b=e
 ·subst hbe;exact heo
 ·exact⟨u,k b u hbe q⟩
end
noncomputable def trk(h:Heap)(H:Hp):List Addr:=(List.range h.objs.size).filter λa=>(H a).isSome
noncomputable def k5(h:Heap)(H:Hp):Heap:=PySem.W.hideAll h (trk h H)
theorem T0(h:Heap)(H:Hp):(k5 h H).objs.size=h.objs.size:=PySem.W.hideAll_size _ _
theorem m6{h:Heap}{H:Hp}{b:Addr}{o:Obj}(e:h.get? b=some o)(n:H b=none):(k5 h H).get? b=some o:=
 PySem.W.hideAll_get _ e λhm=>by
  have q:(H b).isSome=true:=(vG.mp hm).2;rw[n]at q;simp at q
theorem qAx{h:Heap}{H:Hp}{b:Addr}{o:Obj}(e:(k5 h H).get? b=some o):h.get? b=some o/\H b=none:=by
 have e':h.get? b=some o:=PySem.W.of_hideAll (trk h H) e;refine⟨e',?_⟩;cases q:H b with
 |none=>rfl
 |some x=>
  have hm:b∈trk h H:=vG.mpr ⟨wg.mpr (Heap.lt_size e'),by simp[q]⟩;have z:(k5 h H).get? b=none:=PySem.W.hideAll_none (trk h H) hm;rw[z]at e;cases e
noncomputable def qB2(g h:Heap)(L:Addr):List (Addr×Obj):=(List.range h.objs.size).filterMap λa=>if a=L\/(g.get? a).isSome=true then none else (h.get? a).map λo=>(a,o)
noncomputable def jP(g h:Heap)(L d:Addr):List (Addr×Obj):=(qB2 g h L).filter λp=>decide (p.1≠d)
structure Mod(K:PySem.W.Frag)(mg:Str->Option Value)(base:Heap):Prop where
 kin:K.In base
 glob:base.Ns mainGlobals mg
 blt:∃mb,base.Ns builtinsNs mb/\∀x:Str,x≠"__name__" -> mb x=bootBuiltins x
 nolimit:base.NoLimit
set_option genInjectivity false in structure Cx where
 prog:Program
 w:World
 K:PySem.W.Frag
 mg:Str->Option Value
 base:Heap
 A:Around
 N:List Str
 s₀:Shared
 H₀:Hp
 env:Env
 outer:List Env
 stack:List Env
 ex:List Addr
 fn:Str->Bool
 calm:Bool
 pn:List (Addr×Obj)
 xe:Value->Shared->Prop
noncomputable def frs(l:List Env):List Addr:=l.filterMap (·.frame)
noncomputable abbrev Cx.fs(X:Cx):List Addr:=frs X.outer
def Vis(sc:Scope)(x:Str):Prop:=sc.names.lookup x=some .local\/sc.names.lookup x=some .cell\/sc.names.lookup x=some .free
def Loc(sc:Scope)(x:Str):Prop:=sc.names.lookup x=some .local\/sc.names.lookup x=some .cell
def qFz(env:Env)(h:Heap)(m:Str->Option Value)(x:Str)(u:Value):Prop:=
 (env.kindOf x=some .local/\m x=some u)\/((env.kindOf x=some .cell\/env.kindOf x=some .free)/\∃c,env.cells.lookup x=some c/\h.IsCell c (some u))
structure Cx.Ok(X:Cx):Prop where
 mod:Mod X.K X.mg X.base
 kind:X.env.scope.kind=.function
 glob:X.env.globals=mainGlobals
 blt:X.env.builtins=builtinsNs
 above:X.s₀.heap.objs.size<=X.env.locals
 inj:∀x y c,X.env.cells.lookup x=some c->X.env.cells.lookup y=some c->x=y
 has:∀x,(X.env.kindOf x=some .cell\/X.env.kindOf x=some .free)->∃c,X.env.cells.lookup x=some c
 cab:∀x c,X.fn x=true->X.env.cells.lookup x=some c->X.s₀.heap.objs.size<=c
 hd:X.calm=true->X.A.handled=none
 frames:X.A.frames=some X.stack
 stk:X.stack=X.outer\/(X.stack=X.env::X.outer/\X.env.frame=some X.env.locals)
 exf:∀b∈X.ex,b≠X.env.locals/\∀x c,X.env.cells.lookup x=some c->c≠b
 bs:∀b o,X.base.get? b=some o->X.s₀.heap.get? b=some o/\X.H₀ b=none
 bsz:X.base.objs.size<=X.s₀.heap.objs.size
 noex:∀b o,X.base.get? b=some o->b∉X.ex
 exfs:∀b∈X.ex,b∉X.fs
 funs:X.s₀.heap.FunFrames X.base X.outer
 frf:∀b∈X.fs,X.H₀ b=none
structure Inv(X:Cx)(pins:List (Addr×Obj))(σ:List (Option V))(H:Hp)(s:Shared):Prop where
 ok:X.Ok
 os:s.os=X.s₀.os
 bare:AllBare s.gens
 base:Un X.fs X.ex X.H₀ H X.s₀.heap s.heap
 loc:∃m,s.heap.Ns X.env.locals m/\∀(i:Nat) (x:Str) (v:V),X.N[i]?=some x->σ[i]?=some (some v)->Vis X.env.scope x->∃u,RelV v u/\qFz X.env s.heap m x u
 cell:∀x c,X.env.cells.lookup x=some c->∃v,s.heap.IsCell c v
 free:H X.env.locals=none
 freeC:∀x c,X.env.cells.lookup x=some c->H c=none
 pin:∀p∈X.pn++pins,s.heap.get? p.1=some p.2/\H p.1=none/\p.1≠X.env.locals/\p.1∉X.fs/\∀v,p.2.data≠.cell v
 hok:HOk X.prog X.w H s.heap
 len:σ.length=X.N.length
section
variable{X:Cx}{pins:List (Addr×Obj)}{σ:List (Option V)}{H H':Hp}{s:Shared}{h':Heap}
theorem Cx.Ok.nofr(ok:X.Ok){b:Addr}{o:Obj}(e:X.base.get? b=some o):b∉X.fs:=λhb=>by
 have:=(ok.funs.mem hb).1;rw[e]at this;cases this
theorem Inv.bs(I:Inv X pins σ H s):∀b o,X.base.get? b=some o->s.heap.get? b=some o/\H b=none:=λb o e=>
 ⟨I.base.keep b o (I.ok.bs b o e).1 (I.ok.bs b o e).2 (I.ok.nofr e) (I.ok.noex b o e),I.base.free b o (I.ok.bs b o e).1 (I.ok.bs b o e).2 (I.ok.noex b o e)⟩
theorem Inv.bk(I:Inv X pins σ H s):∀b o,X.base.get? b=some o->s.heap.get? b=some o:=λb o e=>(I.bs b o e).1
theorem Inv.mod(I:Inv X pins σ H s):Mod X.K X.mg X.base:=I.ok.mod
theorem Inv.kIn(I:Inv X pins σ H s):X.K.In s.heap:=I.ok.mod.kin.keeps I.bk
theorem Inv.lt(I:Inv X pins σ H s):X.env.locals<s.heap.objs.size:=let ⟨_,hn,_⟩:=I.loc;hn.lt
theorem Inv.sz(I:Inv X pins σ H s):X.s₀.heap.objs.size<=s.heap.objs.size:=wH I.ok.above (wv I.lt)
theorem Inv.nofs(I:Inv X pins σ H s){a:Addr}(h:s.heap.objs.size<=a):a∉X.fs:=λhb=>by
 obtain⟨_,o,ho,_⟩:=I.ok.funs.mem hb;exact absurd (wG (Heap.lt_size ho) (wH I.sz h)) (wf _)
theorem Inv.cne(I:Inv X pins σ H s):∀x c,X.env.cells.lookup x=some c->c≠X.env.locals:=λx c e z=>by
 obtain⟨v,o,ho,hd⟩:=I.cell x c e;obtain⟨m,⟨o',es,ep,ho',hd',_⟩,_⟩:=I.loc;rw[z,ho']at ho;cases ho;rw[hd']at hd;cases hd
theorem Inv.funs(I:Inv X pins σ H s):s.heap.FunFrames X.base X.outer:=by
 have all:∀(l:List Env),(∀b∈frs l,b∈X.fs)->X.s₀.heap.FunFrames X.base l->s.heap.FunFrames X.base l:=by
  intro l
  induction l with
  |nil=>intro _ _;trivial
  |cons env r ih=>
   intro hs hl;obtain⟨hk,⟨L,o,hf,hn,ho,hd⟩,hr⟩:=hl;have hL:L∈X.fs:=hs L (by unfold frs;rw[vf,hf];exact wN);obtain⟨sl,e⟩:=I.base.slot L o ho (I.ok.frf L hL) hL λz=>I.ok.exfs L z hL;exact⟨hk,⟨L,_,hf,hn,e,hd⟩,ih (λb hb=>hs b (by unfold frs;rw[vf,hf];exact wI _ hb)) hr⟩
 exact all X.outer (λ_ hb=>hb) I.ok.funs
theorem Inv.stack(I:Inv X pins σ H s):s.heap.FunFrames X.base X.stack:=by
 rcases I.ok.stk with e|⟨e,hf⟩
 ·rw[e];exact I.funs
 ·rw[e];obtain⟨m,hn,_⟩:=I.loc;refine .cons (by rw[I.ok.kind];decide) hf hn ?_ I.funs;exact Heap.get?_none_of_le (wH I.ok.bsz I.ok.above)
theorem Inv.stkSub(I:Inv X pins σ H s):∀b∈frs X.stack,b∈X.env.locals::X.fs:=λb hb=>by
 rcases I.ok.stk with e|⟨e,hf⟩
 ·rw[e]at hb;exact wI _ hb
 ·rw[e]at hb;unfold frs at hb;rw[vf,hf]at hb;exact hb
theorem Inv.stkFree(I:Inv X pins σ H s):∀b∈frs X.stack,H b=none:=λb hb=>by
 rcases wP.mp (I.stkSub b hb) with e|hb
 ·rw[e];exact I.free
 ·obtain⟨_,o,ho,_⟩:=I.ok.funs.mem hb;exact I.base.free b o ho (I.ok.frf b hb) λz=>I.ok.exfs b z hb
theorem Inv.step{g':Array GenState}{t':Nat}{d':Drawn}{ch:List Addr}(I:Inv X pins σ H s)
  (hch:∀b∈ch,(b∈X.ex\/X.s₀.heap.objs.size<=b)/\b≠X.env.locals/\(∀x c,X.env.cells.lookup x=some c->c≠b)/\∀p∈X.pn++pins,p.1≠b)
  (keep:∀b o,b≠X.env.locals->b∉X.fs->b∉ch->s.heap.get? b=some o->H b=none->h'.get? b=some o)
  (slot:∀b o,b≠X.env.locals->b∈X.fs->b∉ch->s.heap.get? b=some o->H b=none->∃sl,h'.get? b=some { o with slots:=sl }) (free:∀b o,b∉ch->s.heap.get? b=some o->H b=none->H' b=none)
  (there:∀b o,b∉ch->s.heap.get? b=some o->∃o',h'.get? b=some o')
  (tups:∀b xs,H b=some (.tup xs)->H' b=some (.tup xs)) (frzs:∀b o u,H b=some (.frz o u)->H' b=some (.frz o u)) (tbls:∀b ps,H b=some (.tbl ps)->∃more,H' b=some (.tbl (ps++more)))
  (ns:∀m,s.heap.Ns X.env.locals m->h'.Ns X.env.locals m) (hok:HOk X.prog X.w H' h') (hg:AllBare g'):
  Inv X pins σ H' { s with heap:=h',gens:=g',drawn:=d',toks:=t' }:=by
 have neL:∀b o,X.s₀.heap.get? b=some o->b≠X.env.locals:=λb o e=>wU (wG (Heap.lt_size e) I.ok.above);have neC:∀b o,X.s₀.heap.get? b=some o->b∉X.ex->b∉ch:=λb o e hx hb=>by
  rcases(hch b hb).1 with z|z
  ·exact hx z
  ·exact absurd (wG (Heap.lt_size e) z) (wf _)
 have cellK:∀x c,X.env.cells.lookup x=some c->∀v,s.heap.IsCell c v->h'.IsCell c v:=λx c e v ⟨o,ho,hd⟩=>by
  have nch:c∉ch:=λz=>(hch c z).2.2.1 x c e rfl;by_cases hc:c∈X.fs
  ·obtain⟨sl,q⟩:=slot c o (I.cne x c e) hc nch ho (I.freeC x c e);exact⟨_,q,hd⟩
  ·exact⟨o,keep c o (I.cne x c e) hc nch ho (I.freeC x c e),hd⟩
 refine⟨I.ok,I.os,hg,⟨λb o e n hb hx=>?_,λb o e n hb hx=>?_,λb o e n hx=>?_,λb o e hx=>?_,λb xs e=>tups b xs (I.base.tups b xs e),λb o xs e=>frzs b o xs (I.base.frzs b o xs e),λb ps e=>?_⟩,?_,λx c e=>?_,?_,λx c e=>?_,λp hp=>?_,hok,I.len⟩
 ·exact keep b o (neL b o e) hb (neC b o e hx) (I.base.keep b o e n hb hx) (I.base.free b o e n hx)
 ·obtain⟨sl,e1⟩:=I.base.slot b o e n hb hx;obtain⟨sl',e2⟩:=slot b _ (neL b o e) hb (neC b o e hx) e1 (I.base.free b o e n hx);exact⟨sl',e2⟩
 ·obtain⟨o',e1⟩:=I.base.there b o e hx;exact free b o' (neC b o e hx) e1 (I.base.free b o e n hx)
 ·obtain⟨o',e1⟩:=I.base.there b o e hx;exact there b o' (neC b o e hx) e1
 ·obtain⟨m1,e1⟩:=I.base.tbls b ps e;obtain⟨m2,e2⟩:=tbls b _ e1;exact⟨m1++m2,by rw[e2,Array.append_assoc]⟩
 ·obtain⟨m,hn,hl⟩:=I.loc;refine⟨m,ns m hn,λi x v e1 e2 e3=>?_⟩;obtain⟨u,r,l⟩:=hl i x v e1 e2 e3;refine⟨u,r,?_⟩;rcases l with l|⟨k,c,e,z⟩
  ·exact .inl l
  ·exact .inr ⟨k,c,e,cellK x c e _ z⟩
 ·obtain⟨v,z⟩:=I.cell x c e;exact⟨v,cellK x c e v z⟩
 ·obtain⟨m,⟨o,_,_,ho,_⟩,_⟩:=I.loc;exact free _ o (λz=>(hch _ z).2.1 rfl) ho I.free
 ·obtain⟨v,o,ho,hd⟩:=I.cell x c e;exact free c o (λz=>(hch c z).2.2.1 x c e rfl) ho (I.freeC x c e)
 ·obtain⟨e,n,ne,nf,d⟩:=I.pin p hp;have nch:p.1∉ch:=λz=>(hch p.1 z).2.2.2 p hp rfl;exact⟨keep p.1 p.2 ne nf nch e n,free p.1 p.2 nch e n,ne,nf,d⟩
theorem Inv.un{t':Nat}(I:Inv X pins σ H s)(u:Un X.fs [] H H' s.heap h')(hok:HOk X.prog X.w H' h'):Inv X pins σ H' { s with heap:=h',toks:=t' }:=by
 obtain⟨m,⟨o,es,ep,ho,r⟩,_⟩:=id I.loc;obtain⟨sl,hL⟩:=u.any ho I.free (by simp);exact I.step (g':=s.gens) (d':=s.drawn) (ch:=[]) (λ_ z=>nomatch z) (λb o _ hb _ e n=>u.keep b o e n hb (by simp)) (λb o _ hb _ e n=>u.slot b o e n hb (by simp)) (λb o _ e n=>u.free b o e n (by simp)) (λb o _ e=>u.there b o e (by simp)) u.tups u.frzs u.tbls (λm' hm=>by
  obtain⟨o',es',ep',ho',r'⟩:=hm;rw[ho]at ho';cases ho';exact⟨_,es',ep',hL,r'⟩) hok I.bare
theorem Inv.call{g':Array GenState}{t':Nat}{d':Drawn}{ch:List Addr}(I:Inv X pins σ H s)(u:Un (frs X.stack) ch H H' s.heap h')(hok:HOk X.prog X.w H' h')(hg:AllBare g')
  (hch:∀b∈ch,(b∈X.ex\/X.s₀.heap.objs.size<=b)/\b≠X.env.locals/\(∀x c,X.env.cells.lookup x=some c->c≠b)/\∀p∈X.pn++pins,p.1≠b):
  Inv X pins σ H' { s with heap:=h',gens:=g',drawn:=d',toks:=t' }:=by
 obtain⟨m,⟨o,es,ep,ho,r⟩,_⟩:=id I.loc;obtain⟨sl,hL⟩:=u.any ho I.free λz=>(hch _ z).2.1 rfl;exact I.step (ch:=ch) hch (λb o hL hb hc e n=>u.keep b o e n (λz=>(wP.mp (I.stkSub b z)).elim hL hb) hc) (λb o _ _ hc e n=>u.any e n hc) (λb o hc e n=>u.free b o e n hc) (λb o hc e=>u.there b o e hc) u.tups u.frzs u.tbls (λm' hm=>by
  obtain⟨o',es',ep',ho',r'⟩:=hm;rw[ho]at ho';cases ho';exact⟨_,es',ep',hL,r'⟩) hok hg
theorem Inv.turned{t':Nat}{it:Addr}(I:Inv X pins σ H s)(k:∀b o,b≠it->s.heap.get? b=some o->h'.get? b=some o)(hn:H it=none)(hL:it≠X.env.locals)
  (h1:it∈X.ex\/X.s₀.heap.objs.size<=it) (h2:∀x c,X.env.cells.lookup x=some c->c≠it) (h3:∀p∈X.pn++pins,p.1≠it):Inv X pins σ H { s with heap:=h',toks:=t' }:=by
 have nit:∀b u,H b=some u->b≠it:=λb u e z=>by rw[z,hn]at e;cases e
 refine I.step (g':=s.gens) (d':=s.drawn) (ch:=[it]) (λb hb=>?_) (λb o _ _ hc e _=>k b o (λz=>hc (by simp[z])) e) (λb o _ _ hc e _=>⟨o.slots,k b o (λz=>hc (by simp[z])) e⟩) (λ_ _ _ _ n=>n)
  (λb o hc e=>⟨o,k b o (λz=>hc (by simp[z])) e⟩) (λ_ _ e=>e) (λ_ _ _ e=>e) (λb ps e=>⟨#[],by rw[e];simp⟩) (λm hm=>?_) (λb u e=>?_) I.bare
 ·have e:b=it:=by simpa using hb
  subst e;exact⟨h1,hL,h2,h3⟩
 ·obtain⟨o,es,ep,ho,r⟩:=hm;exact⟨o,es,ep,k _ o (Ne.symm hL) ho,r⟩
 ·refine(I.hok b u e).stay (λc v hc q=>k c v ?_ q) (λ_ q=>q) λ_ _ q=>q;rcases hc with z|z
  ·rw[z];exact nit b u e
  ·exact nit c _ z
theorem Inv.tok(I:Inv X pins σ H s)(t:Nat):Inv X pins σ H { s with toks:=t }:=I.un (h':=s.heap) (t':=t) Un.refl I.hok
theorem Inv.kept{t':Nat}(I:Inv X pins σ H s)(k:∀b u,s.heap.get? b=some u->h'.get? b=some u):Inv X pins σ H { s with heap:=h',toks:=t' }:=I.un (Un.kept k) (I.hok.kept k)
theorem Inv.laid{a:Addr}{o:HO}{t':Nat}(I:Inv X pins σ H s)(k:∀b u,s.heap.get? b=some u->h'.get? b=some u)(hp:s.heap.objs.size<=a)(new:ObjOk X.prog X.w (upd H a o) h' a o):
  Inv X pins σ (upd H a o) { s with heap:=h',toks:=t' }:=I.un (Un.laid k hp (I.hok.fresh hp)) (I.hok.laid k hp new)
theorem Inv.write{x e:Addr}{o:HO}{t':Nat}(I:Inv X pins σ H s)(mu:Mut (H x))(he:e=x\/H e=some (.own x))(k:∀b u,b≠e->s.heap.get? b=some u->h'.get? b=some u)(heo:∃u,h'.get? e=some u)
  (new:ObjOk X.prog X.w (upd H x o) h' x o):Inv X pins σ (upd H x o) { s with heap:=h',toks:=t' }:=I.un (Un.write mu he k heo) (I.hok.write mu he k heo new)
theorem Inv.pins_of{pins':List (Addr×Obj)}(I:Inv X pins σ H s)(h:∀p∈pins',s.heap.get? p.1=some p.2/\H p.1=none/\p.1≠X.env.locals/\p.1∉X.fs/\∀v,p.2.data≠.cell v):Inv X pins' σ H s:=
 ⟨I.ok,I.os,I.bare,I.base,I.loc,I.cell,I.free,I.freeC,λp hp=>(wL.mp hp).elim (λz=>I.pin p (wQ _ z)) (h p),I.hok,I.len⟩
theorem J1{N:List Str}(hN:N.Nodup){i j:Nat}{x:Str}(a:N[i]?=some x)(b:N[j]?=some x):i=j:=by
 obtain⟨h1,e1⟩:=wB.mp a;obtain⟨h2,e2⟩:=wB.mp b;exact(List.getElem_inj hN).mp (e1.trans e2.symm)
theorem Jc{M:Model}{A:Around}{E:Value->Shared->Prop}{i:Nat}{x:Str}{v:V}{u:Value}{Q:Unit->Shared->Prop}(I:Inv X pins σ H s)(hN:X.N.Nodup)(hi:X.N[i]?=some x)(hx:Loc X.env.scope x)(r:RelV v u)
  (h:∀s',Inv X pins (σ.set i (some v)) H s'->(∃a,Heap.SameBut a s.heap s'.heap/\(a=X.env.locals\/X.env.cells.lookup x=some a))->Q () s') (hf:X.fn x=true\/X.env.scope.names.lookup x=some .local:=by first|exact .inl rfl|exact .inr rfl|assumption):wpAny M A (storeName X.env x u) Q E s:=by
 obtain⟨m,hn,hl⟩:=id I.loc;have hcls:(X.env.scope.kind==.class||(X.env.scope.kind==.module&&X.env.locals != X.env.globals))=false:=by rw[I.ok.kind];rfl
 have hiσ:i<σ.length:=by rw[I.len];exact(wB.mp hi).1
 have cne:=I.cne;have tracked:∀{a:Addr}{h':Heap},(∃o,s.heap.get? a=some o/\H a=none)->Heap.SameBut a s.heap h'->HOk X.prog X.w H h':=λ{a h'} ha hs b ob e=>by
  obtain⟨_,_,hfree⟩:=ha;refine(I.hok b ob e).stay (λc w' hc q=>(hs.2 c ?_).trans q) (λ_ q=>q) λ_ _ q=>q;rintro rfl;rcases hc with rfl|hc
  ·rw[hfree]at e;cases e
  ·rw[hfree]at hc;cases hc
 rcases hx with hk|hk
 ·refine wpAny_storeName_local hk hn (λh' hn' hs=>?_) hcls;obtain⟨oL,_,_,hoL,_⟩:=id hn;refine h _ ⟨I.ok,I.os,I.bare,⟨λb o e n hb hx=>?_,λb o e n hb hx=>?_,I.base.free,λb o e hx=>?_,I.base.tups,I.base.frzs,I.base.tbls⟩,⟨_,hn',λj y v' e1 e2 e3=>?_⟩,λy c e=>?_,I.free,I.freeC,λp hp=>?_,tracked ⟨oL,hoL,I.free⟩ hs,by simpa using I.len⟩ ⟨_,hs,.inl rfl⟩
  ·exact(hs.2 b (wU (wG (Heap.lt_size e) I.ok.above))).trans (I.base.keep b o e n hb hx)
  ·obtain⟨sl,e1⟩:=I.base.slot b o e n hb hx;exact⟨sl,(hs.2 b (wU (wG (Heap.lt_size e) I.ok.above))).trans e1⟩
  ·obtain⟨o',e1⟩:=I.base.there b o e hx;exact⟨o',(hs.2 b (wU (wG (Heap.lt_size e) I.ok.above))).trans e1⟩
  ·by_cases hj:j=i
   ·subst hj;rw[hi]at e1;cases e1;rw[wZ hiσ]at e2;cases e2;exact⟨u,r,.inl ⟨hk,by simp⟩⟩
   ·rw[wV (Ne.symm hj)]at e2;obtain⟨u',r',q⟩:=hl j y v' e1 e2 e3;refine⟨u',r',?_⟩;rcases q with⟨k,e⟩|⟨k,c,e,z⟩
    ·refine .inl ⟨k,?_⟩;have:y≠x:=λe=>hj (J1 hN e1 (e ▸ hi));simp[this,e]
    ·exact .inr ⟨k,c,e,z.sameBut hs (cne y c e)⟩
  ·obtain⟨w',z⟩:=I.cell y c e;exact⟨w',z.sameBut hs (cne y c e)⟩
  ·obtain⟨e,n,ne,nf,d⟩:=I.pin p hp;exact⟨(hs.2 p.1 ne).trans e,n,ne,nf,d⟩
 ·have hfn:X.fn x=true:=by
   rcases hf with z|z
   ·exact z
   ·rw[z]at hk;cases hk
  obtain⟨c,hc⟩:=I.ok.has x (.inl hk);obtain⟨w',z⟩:=I.cell x c hc;refine wpAny_storeName_cell I.ok.kind hk hc z (λh' hc' hs=>?_);obtain⟨oc,hoc,hocd⟩:=id z;refine h { s with heap:=h' } ⟨I.ok,I.os,I.bare,⟨λb o e n hb hx=>?_,λb o e n hb hx=>?_,I.base.free,λb o e hx=>?_,I.base.tups,I.base.frzs,I.base.tbls⟩,⟨m,hn.sameBut hs (Ne.symm (cne x c hc)),λj y v' e1 e2 e3=>?_⟩,λy c' e=>?_,I.free,I.freeC,λp hp=>?_,tracked ⟨oc,hoc,I.freeC x c hc⟩ hs,by simpa using I.len⟩ ⟨c,hs,.inr hc⟩
  ·exact(hs.2 b (wU (wG (Heap.lt_size e) (I.ok.cab x c hfn hc)))).trans (I.base.keep b o e n hb hx)
  ·obtain⟨sl,e1⟩:=I.base.slot b o e n hb hx;exact⟨sl,(hs.2 b (wU (wG (Heap.lt_size e) (I.ok.cab x c hfn hc)))).trans e1⟩
  ·obtain⟨o',e1⟩:=I.base.there b o e hx;exact⟨o',(hs.2 b (wU (wG (Heap.lt_size e) (I.ok.cab x c hfn hc)))).trans e1⟩
  ·by_cases hj:j=i
   ·subst hj;rw[hi]at e1;cases e1;rw[wZ hiσ]at e2;cases e2;exact⟨u,r,.inr ⟨.inl hk,c,hc,hc'⟩⟩
   ·rw[wV (Ne.symm hj)]at e2;obtain⟨u',r',q⟩:=hl j y v' e1 e2 e3;refine⟨u',r',?_⟩;rcases q with q|⟨k,c',e,z'⟩
    ·exact .inl q
    ·refine .inr ⟨k,c',e,z'.sameBut hs ?_⟩;rintro rfl;exact hj (J1 hN e1 (I.ok.inj _ _ _ e hc ▸ hi))
  ·by_cases hcc:c'=c
   ·subst hcc;exact⟨_,hc'⟩
   ·obtain⟨w2,z2⟩:=I.cell y c' e;exact⟨w2,z2.sameBut hs hcc⟩
  ·obtain⟨e,n,ne,nf,d⟩:=I.pin p hp;refine⟨(hs.2 p.1 ?_).trans e,n,ne,nf,d⟩;intro q;rw[q,hoc]at e;have q':oc=p.2:=Option.some.inj e;exact d w' (by rw[<-q'];exact hocd)
theorem jg{M:Model}{A:Around}{E:Value->Shared->Prop}{i:Nat}{x:Str}{v:V}{u:Value}{Q:Unit->Shared->Prop}(I:Inv X pins σ H s)(hN:X.N.Nodup)(hi:X.N[i]?=some x)(hx:Loc X.env.scope x)(r:RelV v u)
  (h:∀s',Inv X pins (σ.set i (some v)) H s'->Q () s') (hf:X.fn x=true\/X.env.scope.names.lookup x=some .local:=by first|exact .inl rfl|exact .inr rfl|assumption):wpAny M A (storeName X.env x u) Q E s:=
 Jc I hN hi hx r (λs' I' _=>h s' I') hf
theorem Inv.call'{s':Shared}{ch:List Addr}(I:Inv X pins σ H s)(ho:s'.os=s.os)(u:Un (frs X.stack) ch H H' s.heap s'.heap)(hok:HOk X.prog X.w H' s'.heap)(hg:AllBare s'.gens)
  (hch:∀b∈ch,(b∈X.ex\/X.s₀.heap.objs.size<=b)/\b≠X.env.locals/\(∀x c,X.env.cells.lookup x=some c->c≠b)/\∀p∈X.pn++pins,p.1≠b):Inv X pins σ H' s':=by
 obtain⟨h',g',d',t',o'⟩:=s';have e:o'=s.os:=ho;subst e;exact I.call (g':=g') (t':=t') (d':=d') u hok hg hch
end
noncomputable abbrev XK:=Value->Option Addr->Hp->Prop
noncomputable abbrev St:=List (Option V)
noncomputable abbrev VK:=V->Hp->Prop
noncomputable abbrev TE:=St->Hp->VK->Prop
noncomputable abbrev TT:=St->Hp->(Bool->Hp->Prop)->Prop
noncomputable abbrev TA:=St->Hp->(List V->Hp->Prop)->Prop
structure Q4 where
 nx:St->Hp->Prop
 rt:VK
 bk:St->Hp->Prop:=λ_ _=>False
 ct:St->Hp->Prop:=λ_ _=>False
noncomputable abbrev TS:=Q4->St->Hp->Prop
def EP(X:Cx)(pins:List (Addr×Obj))(σ:St)(Q:VK)(u:Value)(s':Shared):Prop:=∃v H',Inv X pins σ H' s'/\RelV v u/\Q v H'
def TP(X:Cx)(pins:List (Addr×Obj))(σ:St)(Q:Bool->Hp->Prop)(b:Bool)(s':Shared):Prop:=∃H',Inv X pins σ H' s'/\Q b H'
def AP(X:Cx)(pins:List (Addr×Obj))(σ:St)(Q:List V->Hp->Prop)(us:List Value)(s':Shared):Prop:=∃vs H',Inv X pins σ H' s'/\Vals vs us/\Q vs H'
def SP(X:Cx)(pins:List (Addr×Obj))(D:Q4)(f:Flow)(s':Shared):Prop:=
 match f with
 | .next=>∃σ' H',Inv X pins σ' H' s'/\D.nx σ' H'
 | .brk=>∃σ' H',Inv X pins σ' H' s'/\D.bk σ' H'
 | .cont=>∃σ' H',Inv X pins σ' H' s'/\D.ct σ' H'
 | .ret u=>∃v σ' H',Inv X pins σ' H' s'/\RelV v u/\D.rt v H'
def PE(X:Cx)(e:Expr)(t:TE):Prop:=
 ∀(pins:List (Addr×Obj)) (s:Shared) (σ:St) (H:Hp) (Q:VK),Inv X pins σ H s->t σ H Q->wpAny (model X.prog X.w) X.A (eval e X.env) (EP X pins σ Q) X.xe s
def PT(X:Cx)(e:Expr)(t:TT):Prop:=
 ∀(pins:List (Addr×Obj)) (s:Shared) (σ:St) (H:Hp) (Q:Bool->Hp->Prop),Inv X pins σ H s->t σ H Q->wpAny (model X.prog X.w) X.A (isTrue e X.env (eval e X.env)) (TP X pins σ Q) X.xe s
def PW(X:Cx)(e:Expr)(t:TT):Prop:=
 ∀(whole:Sem Value) (pins:List (Addr×Obj)) (s:Shared) (σ:St) (H:Hp) (Q:Bool->Hp->Prop),Inv X pins σ H s->t σ H Q->wpAny (model X.prog X.w) X.A (isTrue e X.env whole) (TP X pins σ Q) X.xe s
theorem PW.pt{X:Cx}{e:Expr}{t:TT}(h:PW X e t):PT X e t:=h _
def PA(X:Cx)(es:List Expr)(t:TA):Prop:=
 ∀(pos:Pos) (pins:List (Addr×Obj)) (s:Shared) (σ:St) (H:Hp) (Q:List V->Hp->Prop),Inv X pins σ H s->t σ H Q->wpAny (model X.prog X.w) X.A (spliced (backTo pos (starEach es X.env))) (AP X pins σ Q) X.xe s
def PS(X:Cx)(st:Stmt)(t:TS):Prop:=
 ∀(pins:List (Addr×Obj)) (s:Shared) (σ:St) (H:Hp) (D:Q4),Inv X pins σ H s->t D σ H->wpAny (model X.prog X.w) X.A (exec st X.env) (SP X pins D) X.xe s
def PSs(X:Cx)(st:List Stmt)(t:TS):Prop:=
 ∀(pins:List (Addr×Obj)) (s:Shared) (σ:St) (H:Hp) (D:Q4),Inv X pins σ H s->t D σ H->wpAny (model X.prog X.w) X.A (execs st X.env) (SP X pins D) X.xe s
theorem thn{α:Type}{t:Sem α}{Q Q':α->Shared->Prop}{M:Model}{A:Around}{E:Value->Shared->Prop}{s:Shared}(h:wpAny M A t Q E s)(hQ:∀a s,Q a s->Q' a s):wpAny M A t Q' E s:=wpAny_mono h hQ λ_ _ x=>x
section
variable{X:Cx}
theorem bin{a b:Expr}{ta tb:TE}(ha:PE X a ta)(hb:PE X b tb){pins:List (Addr×Obj)}{s:Shared}{σ:St}{H:Hp}{R:V->V->Hp->Prop}(I:Inv X pins σ H s)(h:ta σ H λx H1=>tb σ H1 λy H2=>R x y H2)
  {α:Type}{Q:α->Shared->Prop}{f:Value->Value->Sem α}
  (hf:∀v u s2 x y H2,Inv X pins σ H2 s2->RelV x v->RelV y u->R x y H2->wpAny (model X.prog X.w) X.A (f v u) Q X.xe s2):
  wpAny (model X.prog X.w) X.A (eval a X.env) (λv s₁=>wpAny (model X.prog X.w) X.A (eval b X.env) (λu s₂=>wpAny (model X.prog X.w) X.A (f v u) Q X.xe s₂) X.xe s₁) X.xe s:=by
 refine thn (ha pins s σ H _ I h) λv s1 ⟨x,H1,I1,r1,q1⟩=>?_;refine thn (hb pins s1 σ H1 _ I1 q1) λu s2 ⟨y,H2,I2,r2,q2⟩=>?_;exact hf v u s2 x y H2 I2 r1 r2 q2
noncomputable def qF1(i:Nat):TE:=λσ H Q=>∃v,σ[i]?=some (some v)/\Q v H
noncomputable def tC(v:V):TE:=λ_ H Q=>Q v H
theorem pe_var{i:Nat}{x:Str}{pos:Pos}(hN:X.N[i]?=some x)(hv:Vis X.env.scope x)(hd:(x==("__debug__":Str))=false:=by decide)(hcd:(x==("__classdict__":Str))=false:=by decide):PE X (.Name x pos) (qF1 i):=by
 intro pins s σ H Q I h;obtain⟨v,e,h⟩:=h;obtain⟨m,hn,hl⟩:=I.loc;obtain⟨u,r,l⟩:=hl i x v hN e hv;have fin:EP X pins σ Q u s:=⟨v,H,I,r,h⟩
 rcases l with⟨hk,hm⟩|⟨hk,c,hc,hcell⟩
 ·exact wpAny_Name (wpAny_loadName_local I.ok.kind hk hn hm fin) hd
 ·rcases hk with hk|hk
  ·exact wpAny_Name (wpAny_loadName_cell I.ok.kind hk hc hcell fin) hd
  ·exact wpAny_Name (wpAny_loadName_free I.ok.kind hk hc hcell fin hcd) hd
theorem pe_int {i j pos}:PE X (.Constant (.int i) j pos) (tC (.int i)):=λ_ _ _ H _ I h=>wpAny_Constant_int ⟨.int i,H,I.tok _,⟨_,rfl⟩,h⟩
theorem pe_bl {b j pos}:PE X (.Constant (.bool b) j pos) (tC (.bl b)):=λ_ _ _ H _ I h=>Constant_bool ⟨.bl b,H,I,rfl,h⟩
theorem pe_non {j pos}:PE X (.Constant .none j pos) (tC .non):=λ_ _ _ H _ I h=>Constant_none ⟨.non,H,I,rfl,h⟩
theorem pe_str {x j pos}:PE X (.Constant (.str x) j pos) (tC (.str x)):=λ_ _ _ H _ I h=>Calls.Constant_str ⟨.str x,H,I.tok _,⟨_,rfl⟩,h⟩
def Gl(X:Cx)(x:Str):Prop:=X.env.kindOf x=some .globalImplicit
theorem B9{E:Value->Shared->Prop}{pins:List (Addr×Obj)}{s:Shared}{σ:St}{H:Hp}{x:Str}{u:Value}{pos:Pos}{Q:Value->Shared->Prop}(I:Inv X pins σ H s)(hg:Gl X x)(hm:X.mg x=some u)(h:Q u s)
  (hd:(x==("__debug__":Str))=false:=by decide):wpAny (model X.prog X.w) X.A (eval (.Name x pos) X.env) Q E s:=
 Calls.Name_function_global I.ok.kind hg (Calls.loadGlobal_global (by rw[I.ok.glob];exact I.mod.glob.keeps I.bk) hm h) hd
theorem ld_blt{E:Value->Shared->Prop}{pins:List (Addr×Obj)}{s:Shared}{σ:St}{H:Hp}{x:Str}{u:Value}{pos:Pos}{Q:Value->Shared->Prop}(I:Inv X pins σ H s)(hg:Gl X x)(hm:X.mg x=none)(hv:bootBuiltins x=some u)(h:Q u s)
  (hn:x≠"__name__":=by decide) (hd:(x==("__debug__":Str))=false:=by decide):wpAny (model X.prog X.w) X.A (eval (.Name x pos) X.env) Q E s:=by
 obtain⟨mb,h1,h2⟩:=I.mod.blt;exact Calls.Name_function_global I.ok.kind hg (Calls.loadGlobal_builtin (by rw[I.ok.glob];exact I.mod.glob.keeps I.bk) hm (by rw[I.ok.blt];exact h1.keeps I.bk) ((h2 x hn).trans hv) h) hd
theorem pe_glob{x:Str}{v:V}{u:Value}{pos:Pos}(hg:Gl X x)(hm:X.mg x=some u)(r:RelV v u)(hd:(x==("__debug__":Str))=false:=by decide):PE X (.Name x pos) (tC v):=
 λ_ _ _ H _ I h=>B9 I hg hm ⟨v,H,I,r,h⟩ hd
theorem pe_bltn{x:Str}{v:V}{u:Value}{pos:Pos}(hg:Gl X x)(hm:X.mg x=none)(hv:bootBuiltins x=some u)(r:RelV v u)(hn:x≠"__name__":=by decide)(hd:(x==("__debug__":Str))=false:=by decide):PE X (.Name x pos) (tC v):=
 λ_ _ _ H _ I h=>ld_blt I hg hm hv ⟨v,H,I,r,h⟩ hn hd
variable{a b:Expr}{ta tb:TE}{pos:Pos}
def PC(X:Cx)(op:CmpOp)(a b:Expr)(t:TE):Prop:=
 ∀(pins:List (Addr×Obj)) (s:Shared) (σ:St) (H:Hp) (Q:VK),Inv X pins σ H s->t σ H Q ->
  wpAny (model X.prog X.w) X.A (eval a X.env) (λv s₁=>wpAny (model X.prog X.w) X.A (eval b X.env) (λu s₂=>wpAny (model X.prog X.w) X.A (compareOp op v u) (EP X pins σ Q) X.xe s₂) X.xe s₁) X.xe s
noncomputable def tB(t:TE):TT:=λσ H Q=>t σ H λx H1=>∃c,x=.bl c/\Q c H1
theorem qAM{op:CmpOp}{t:TE}(h:PC X op a b t)(h1:behindInMarks op b=false:=by first|exact nobehind _ (by decide) (by decide)|rfl):PE X (.Compare a [op] [b] pos) t:=λpins s σ H Q I hw=>wpAny_Compare1 (h pins s σ H Q I hw) h1
theorem pt_val{e:Expr}{t:TE}(h:PE X e t)(he:∀whole,isTrue e X.env whole=(do let v <- whole;standAt e.pos;holding [v] (truthy v)):=by intro _;rfl):PT X e (tB t):=by
 intro pins s σ H Q I hw;refine isTrue_plain (thn (h pins s σ H _ I hw) λv s1 ⟨x,H1,I1,r1,q1⟩=>?_) (he _);obtain⟨d,rfl,q⟩:=q1;cases r1;exact uJ ⟨H1,I1,q⟩
variable{tA tB':TT}{jP:List Expr}
noncomputable def tAnd(t u:TT):TT:=λσ H Q=>t σ H λc H1=>if c=true then u σ H1 Q else Q false H1
noncomputable def tOr(t u:TT):TT:=λσ H Q=>t σ H λc H1=>if c=true then Q true H1 else u σ H1 Q
noncomputable def qGT(t:TT):TT:=λσ H Q=>t σ H λc H1=>Q (!c) H1
theorem pw_and1(ha:PT X a tA):PW X (.BoolOp .And [a] pos) tA:=by
 intro wh pins s σ H Q I h;refine isTrue_and (thn (ha pins s σ H Q I h) λc s1 e=>?_);cases c with
 |true=>exact isTrue_and_nil e
 |false=>exact e
theorem pw_or1(ha:PT X a tA):PW X (.BoolOp .Or [a] pos) tA:=by
 intro wh pins s σ H Q I h;refine isTrue_or (thn (ha pins s σ H Q I h) λc s1 e=>?_);cases c with
 |false=>exact isTrue_or_nil e
 |true=>exact e
theorem pw_and(ha:PT X a tA)(hb:PW X (.BoolOp .And (b::jP) pos) tB'):PW X (.BoolOp .And (a::b::jP) pos) (tAnd tA tB'):=by
 intro wh pins s σ H Q I h;refine isTrue_and (thn (ha pins s σ H _ I h) λc s1 ⟨H1,I1,q1⟩=>?_);cases c with
 |true=>exact hb wh pins s1 σ H1 Q I1 q1
 |false=>exact⟨H1,I1,q1⟩
theorem pw_or(ha:PT X a tA)(hb:PW X (.BoolOp .Or (b::jP) pos) tB'):PW X (.BoolOp .Or (a::b::jP) pos) (tOr tA tB'):=by
 intro wh pins s σ H Q I h;refine isTrue_or (thn (ha pins s σ H _ I h) λc s1 ⟨H1,I1,q1⟩=>?_);cases c with
 |true=>exact⟨H1,I1,q1⟩
 |false=>exact hb wh pins s1 σ H1 Q I1 q1
theorem pt_not(ha:PT X a tA):PT X (.UnaryOp .Not a pos) (qGT tA):=by
 intro pins s σ H Q I h;exact isTrue_not (ha pins s σ H (λc H1=>Q (!c) H1) I h)
noncomputable def tAndV(ta tb:TE):TE:=λσ H Q=>ta σ H λx H1=>∃c,x=.bl c/\if c=true then tb σ H1 Q else Q (.bl false) H1
noncomputable def tOrV(ta tb:TE):TE:=λσ H Q=>ta σ H λx H1=>∃c,x=.bl c/\if c=true then Q (.bl true) H1 else tb σ H1 Q
noncomputable def qEI(ta:TE):TE:=λσ H Q=>ta σ H λx H1=>∃c,x=.bl c/\Q (.bl (!c)) H1
theorem pe_one {op}{t:TE}(h:PE X a t):PE X (.BoolOp op [a] pos) t:=λpins s σ H Q I hw=>BoolOp_one (h pins s σ H Q I hw)
theorem pe_and(ha:PE X a ta)(hb:PE X (.BoolOp .And (b::jP) pos) tb):PE X (.BoolOp .And (a::b::jP) pos) (tAndV ta tb):=by
 intro pins s σ H Q I h;refine BoolOp_and (thn (ha pins s σ H _ I h) λv s1 ⟨x,H1,I1,r1,q1⟩=>?_);obtain⟨c,rfl,q1⟩:=q1;cases r1;refine uJ ?_;cases c with
 |true=>exact hb pins s1 σ H1 Q I1 q1
 |false=>exact⟨.bl false,H1,I1,rfl,q1⟩
theorem pe_or(ha:PE X a ta)(hb:PE X (.BoolOp .Or (b::jP) pos) tb):PE X (.BoolOp .Or (a::b::jP) pos) (tOrV ta tb):=by
 intro pins s σ H Q I h;refine BoolOp_or (thn (ha pins s σ H _ I h) λv s1 ⟨x,H1,I1,r1,q1⟩=>?_);obtain⟨c,rfl,q1⟩:=q1;cases r1;refine uJ ?_;cases c with
 |false=>exact hb pins s1 σ H1 Q I1 q1
 |true=>exact⟨.bl true,H1,I1,rfl,q1⟩
theorem pe_not(ha:PE X a ta):PE X (.UnaryOp .Not a pos) (qEI ta):=by
 intro pins s σ H Q I h;refine UnaryOp_ (thn (ha pins s σ H _ I h) λv s1 ⟨x,H1,I1,r1,q1⟩=>?_);obtain⟨c,rfl,q1⟩:=q1;cases r1;exact not_of (uJ ⟨.bl (!c),H1,I1,rfl,q1⟩)
noncomputable def tIf(t:TT)(ta tb:TE):TE:=λσ H Q=>t σ H λc H1=>if c=true then ta σ H1 Q else tb σ H1 Q
theorem pe_ifExp{c:Expr}(hc:PT X c tA)(ha:PE X a ta)(hb:PE X b tb):PE X (.IfExp c a b pos) (tIf tA ta tb):=by
 intro pins s σ H Q I h;refine wpAny_IfExp (thn (hc pins s σ H _ I h) λd s1 ⟨H1,I1,q1⟩=>?_);cases d with
 |true=>exact ha pins s1 σ H1 Q I1 q1
 |false=>exact hb pins s1 σ H1 Q I1 q1
end
def SqL(K:PySem.W.Frag)(H:Hp)(a:Addr)(xs:List V):Prop:=
 Rd H a (.lst xs)\/
  ∃(o:Obj) (its:Array Value) (n:Nat),K.lookup a=some o/\o.cls=.type "list"/\o.dict=none/\o.data=.seq its n/\its.size<=sizeLine/\Vals xs its.toList
def SqT(K:PySem.W.Frag)(H:Hp)(a:Addr)(xs:List V):Prop:=
 Rd H a (.tup xs)\/
  ∃(o:Obj) (its:Array Value) (n:Nat),K.lookup a=some o/\o.cls=.type "tuple"/\o.data=.seq its n/\its.size<=sizeLine/\Vals xs its.toList
noncomputable def qGC:Value->Option V
 | .none=>some .non
 | .bool b=>some (.bl b)
 | .int i _=>some (.int i)
 | .str x _=>some (.str x)
 | .bytes b _=>some (.byt b)
 | .float b _=>some (.flt b)
 | .ref a=>some (.ref a)
 | .type n=>some (.ty n)
 |_=>none
theorem RelV.abs{x:V}{u:Value}(r:RelV x u):qGC u=some x:=by
 cases x with
 |non=>cases r;rfl
 |bl _=>cases r;rfl
 |int _=>obtain⟨t,rfl⟩:=r;rfl
 |str _=>obtain⟨t,rfl⟩:=r;rfl
 |byt _=>obtain⟨t,rfl⟩:=r;rfl
 |flt _=>obtain⟨t,rfl⟩:=r;rfl
 |ref _=>cases r;rfl
 |ty _=>cases r;rfl
theorem RelV.inj{x y:V}{u:Value}(r:RelV x u)(q:RelV y u):x=y:=Option.some.inj (r.abs.symm.trans q.abs)
theorem Vals.inj:∀{xs ys:List V}{us:List Value},Vals xs us->Vals ys us->xs=ys
 |_,_,_,.nil,.nil=>rfl
 |_,_,_,.cons r t,.cons r' t'=>by rw[r.inj r',Vals.inj t t']
section
variable{X:Cx}{pins:List (Addr×Obj)}{σ:St}{H:Hp}{s:Shared}{a:Addr}{xs ys:List V}
theorem Inv.list(I:Inv X pins σ H s)(h:SqL X.K H a xs):∃its:List Value,Vals xs its/\PlainL s.heap a its.toArray/\xs.length<=sizeLine:=by
 rcases h with h|⟨o,its,n,hk,hc,hd,hs,hz,r⟩
 ·obtain⟨z,its,n,r,e⟩:=h.ok I.hok;exact⟨its,r,⟨_,n,e,rfl,rfl,rfl⟩,z⟩
 ·refine⟨its.toList,r,⟨o,n,I.kIn a o hk,hc,hd,by simpa using hs⟩,?_⟩;have e:=r.length;simp only[wa]at e;omega
theorem Inv.tuple(I:Inv X pins σ H s)(h:SqT X.K H a xs):∃its:List Value,Vals xs its/\IsTup s.heap a its.toArray/\xs.length<=sizeLine:=by
 rcases h with h|⟨o,its,n,hk,hc,hs,hz,r⟩
 ·obtain⟨z,its,r,p⟩:=h.ok I.hok;exact⟨its,r,p,z⟩
 ·refine⟨its.toList,r,⟨o,I.kIn a o hk,hc,n,by simpa using hs⟩,?_⟩;have e:=r.length;simp only[wa]at e;omega
theorem Inv.list_inj(I:Inv X pins σ H s)(h:SqL X.K H a xs)(h':SqL X.K H a ys):xs=ys:=by
 obtain⟨its,r,⟨o,n,e,_,_,d⟩,_⟩:=I.list h;obtain⟨its',r',⟨o',n',e',_,_,d'⟩,_⟩:=I.list h';rw[e]at e';cases e';rw[d]at d';injection d' with d1 _;have:its=its':=by simpa using congrArg Array.toList d1
 subst this;exact r.inj r'
theorem Inv.tuple_inj(I:Inv X pins σ H s)(h:SqT X.K H a xs)(h':SqT X.K H a ys):xs=ys:=by
 obtain⟨its,r,⟨o,e,_,n,d⟩,_⟩:=I.tuple h;obtain⟨its',r',⟨o',e',_,n',d'⟩,_⟩:=I.tuple h';rw[e]at e';cases e';rw[d]at d';injection d' with d1 _;have:its=its':=by simpa using congrArg Array.toList d1
 subst this;exact r.inj r'
end
noncomputable abbrev Cx.wish(X:Cx)(E:Value->Shared->Prop):Cx:={ X with xe:=E }
noncomputable abbrev Cx.nox(X:Cx):Cx:=X.wish λ_ _=>False
theorem Cx.Ok.wish{X:Cx}(ok:X.Ok)(E:Value->Shared->Prop):(X.wish E).Ok:=
 ⟨ok.mod,ok.kind,ok.glob,ok.blt,ok.above,ok.inj,ok.has,ok.cab,ok.hd,ok.frames,ok.stk,ok.exf,ok.bs,ok.bsz,ok.noex,ok.exfs,ok.funs,ok.frf⟩
theorem Cx.Ok.unwish{X:Cx}{E:Value->Shared->Prop}(ok:(X.wish E).Ok):X.Ok:=
 ⟨ok.mod,ok.kind,ok.glob,ok.blt,ok.above,ok.inj,ok.has,ok.cab,ok.hd,ok.frames,ok.stk,ok.exf,ok.bs,ok.bsz,ok.noex,ok.exfs,ok.funs,ok.frf⟩
section
variable{X:Cx}{pins:List (Addr×Obj)}{σ:St}{H:Hp}{s:Shared}{E:Value->Shared->Prop}
theorem Inv.wish(I:Inv X pins σ H s)(E:Value->Shared->Prop):Inv (X.wish E) pins σ H s:=⟨I.ok.wish E,I.os,I.bare,I.base,I.loc,I.cell,I.free,I.freeC,I.pin,I.hok,I.len⟩
theorem Inv.unwish(I:Inv (X.wish E) pins σ H s):Inv X pins σ H s:=⟨I.ok.unwish,I.os,I.bare,I.base,I.loc,I.cell,I.free,I.freeC,I.pin,I.hok,I.len⟩
theorem SP.unwish{D:Q4}{f:Flow}{s':Shared}(h:SP (X.wish E) pins D f s'):SP X pins D f s':=by
 cases f with
 |next=>obtain⟨σ',H',I,q⟩:=h;exact⟨σ',H',I.unwish,q⟩
 |brk=>obtain⟨σ',H',I,q⟩:=h;exact⟨σ',H',I.unwish,q⟩
 |cont=>obtain⟨σ',H',I,q⟩:=h;exact⟨σ',H',I.unwish,q⟩
 |ret u=>obtain⟨v,σ',H',I,r,q⟩:=h;exact⟨v,σ',H',I.unwish,r,q⟩
theorem PSs.nox{st:List Stmt}{t:TS}(h:PSs X.nox st t):PSs X st t:=λpins s σ H D I hw=>
 wpAny_mono (h pins s σ H D (I.wish _) hw) (λ_ _ q=>q.unwish) λ_ _ z=>False.elim z
end
section
variable{X:Cx}{st:Stmt}{jP:List Stmt}{t u:TS}{e:Expr}{te:TE}{pos:Pos}
noncomputable def qE3:TS:=λD σ H=>D.nx σ H
noncomputable def qGK(t u:TS):TS:=λD σ H=>t { D with nx:=u D } σ H
theorem pss_nil:PSs X [] qE3:=λ_ _ σ H _ I h=>wpAny_execs_nil ⟨σ,H,I,h⟩
theorem pss_cons(h1:PS X st t)(h2:PSs X jP u):PSs X (st::jP) (qGK t u):=by
 intro pins s σ H D I h;refine wpAny_execs_cons (thn (h1 pins s σ H { D with nx:=u D } I h) λf s1 q=>?_);cases f with
 |next=>
  obtain⟨σ',H',I',q⟩:=q;exact h2 pins s1 σ' H' D I' q
 |ret v=>exact q
 |brk=>exact q
 |cont=>exact q
theorem Inv.quiet{pins:List (Addr×Obj)}{σ:St}{H:Hp}{s:Shared}(I:Inv X pins σ H s):interactive X.env=false:=by simp[interactive,I.ok.kind]
noncomputable def qEx(te:TE):TS:=λD σ H=>te σ H λ_ H1=>D.nx σ H1
theorem ps_expr(he:PE X e te)(hs:swapsWith e none pos.line X.env=pure false:=by rfl):PS X (.Expr e pos) (qEx te):=by
 intro pins s σ H D I h;exact wpAny_Expr_any (thn (he pins s σ H _ I h) λv s1 ⟨x,H1,I1,r1,q1⟩=>⟨σ,H1,I1,q1⟩) I.quiet hs
noncomputable def qGH(te:TE):TS:=λD σ H=>te σ H D.rt
theorem ps_ret(he:PE X e te):PS X (.Return (some e) pos) (qGH te):=by
 intro pins s σ H D I h;exact wpAny_Return_some (thn (he pins s σ H _ I h) λv s1 ⟨x,H1,I1,r1,q1⟩=>⟨x,σ,H1,I1,r1,q1⟩)
noncomputable def qGc(c:TT)(t u:TS):TS:=λD σ H=>c σ H λb H1=>if b=true then t D σ H1 else u D σ H1
theorem ps_if{c:Expr}{a b:List Stmt}{tc:TT}(hc:PT X c tc)(ha:PSs X a t)(hb:PSs X b u):PS X (.If c a b pos) (qGc tc t u):=by
 intro pins s σ H D I h;refine wpAny_If (thn (hc pins s σ H _ I h) λd s1 ⟨H1,I1,q1⟩=>?_);cases d with
 |true=>exact ha pins s1 σ H1 D I1 q1
 |false=>exact hb pins s1 σ H1 D I1 q1
end
noncomputable abbrev TG:=V->St->Hp->(St->Hp->Prop)->Prop
noncomputable abbrev TGs:=List V->St->Hp->(St->Hp->Prop)->Prop
def PG(X:Cx)(target:Expr)(t:TG):Prop:=
 ∀(pins:List (Addr×Obj)) (s:Shared) (σ:St) (H:Hp) (v:V) (u:Value) (Q:St->Hp->Prop),Inv X pins σ H s->RelV v u->t v σ H Q ->
  wpAny (model X.prog X.w) X.A (assign target X.env u) (λ_ s'=>∃σ' H',Inv X pins σ' H' s'/\Q σ' H') X.xe s
def PGs(X:Cx)(ts:List Expr)(t:TGs):Prop:=
 ∀(pins:List (Addr×Obj)) (s:Shared) (σ:St) (H:Hp) (vs:List V) (us:List Value) (Q:St->Hp->Prop),Inv X pins σ H s->Vals vs us->t vs σ H Q ->
  wpAny (model X.prog X.w) X.A (assignInOrder ((assignEach ts X.env).map (·.2)) us) (λ_ s'=>∃σ' H',Inv X pins σ' H' s'/\Q σ' H') X.xe s
noncomputable abbrev TSet:=V->V->V->Hp->(Hp->Prop)->Prop
def PSet(X:Cx)(t:TSet):Prop:=
 ∀(pins:List (Addr×Obj)) (s:Shared) (σ:St) (H:Hp) (o i v:V) (ov iv u:Value) (Q:Hp->Prop),Inv X pins σ H s->RelV o ov->RelV i iv->RelV v u->t o i v H Q ->
  wpAny (model X.prog X.w) X.A (setItem ov iv u) (λ_ s'=>∃H',Inv X pins σ H' s'/\Q H') X.xe s
section
variable{X:Cx}{pos:Pos}
noncomputable def qCe(i:Nat):TG:=λv σ H Q=>Q (σ.set i (some v)) H
theorem pg_name{i:Nat}{x:Str}(hN:X.N.Nodup)(hi:X.N[i]?=some x)(hx:Loc X.env.scope x)(hf:X.fn x=true\/X.env.scope.names.lookup x=some .local:=by first|exact .inl rfl|exact .inr rfl|assumption):PG X (.Name x pos) (qCe i):=by
 intro pins s σ H v u Q I r h;exact wpAny_assign_Name (jg I hN hi hx r (λs' I'=>⟨_,H,I',h⟩) hf)
noncomputable def qGa:TGs:=λvs σ H Q=>vs=[]/\Q σ H
noncomputable def qE6(t:TG)(u:TGs):TGs:=λvs σ H Q=>∃v r,vs=v::r/\t v σ H λσ' H'=>u r σ' H' Q
theorem pgs_nil:PGs X [] qGa:=by
 intro pins s σ H vs us Q I r h;obtain⟨e,h⟩:=h;subst e;cases r;exact assignInOrder_nil ⟨σ,H,I,h⟩
theorem pgs_cons{e:Expr}{es:List Expr}{t:TG}{u:TGs}(h1:PG X e t)(h2:PGs X es u)
  (hs:(assignEach (e::es) X.env).map (·.2)=assign e X.env::(assignEach es X.env).map (·.2):=by rfl):PGs X (e::es) (qE6 t u):=by
 intro pins s σ H vs us Q I r h;obtain⟨v,vr,e1,h⟩:=h;subst e1;cases r with
 |cons r rr=>
  rw[hs];refine assignInOrder_cons (thn (h1 pins s σ H _ _ _ I r h) λ_ s1 ⟨σ1,H1,I1,q1⟩=>?_);exact h2 pins s1 σ1 H1 _ _ Q I1 rr q1
noncomputable def qGO(K:PySem.W.Frag)(n:Nat)(t:TGs):TG:=λv σ H Q=>∃a xs,v=.ref a/\SqT K H a xs/\xs.length=n/\t xs σ H Q
theorem pg_tup{es:List Expr}{k:Nat}{t:TGs}{n:Nat}(hc:X.calm=true)(h:PGs X es t)
  (hn:(assignEach es X.env).length=n:=by rfl) (hst:(assignEach es X.env).findIdx? (·.1)=none:=by rfl):PG X (.Tuple es k pos) (qGO X.K n t):=by
 intro pins s σ H v u Q I r hw;obtain⟨a,xs,e1,hq,hl,hw⟩:=hw;subst e1;cases r;obtain⟨its,rv,ht,hz⟩:=I.tuple hq;refine assign_Tuple_tuple (I.ok.hd hc) ht (by simp[hn,<-hl,rv.length]) hst λh' hx=>?_;have I1:Inv X pins σ H { s with heap:=h' }:=I.kept (t':=s.toks) λb o e=>hx b o (wU (Heap.lt_size e)) e;exact h pins _ σ H xs _ Q I1 (by simpa using rv) hw
noncomputable def qGb(to ti:TE)(t:TSet):TG:=λv σ H Q=>to σ H λo H1=>ti σ H1 λi H2=>t o i v H2 λH3=>Q σ H3
theorem pg_sub{o i:Expr}{to ti:TE}{t:TSet}(ho:PE X o to)(hi:PE X i ti)(hs:PSet X t)
  (ha:∀v,assign (.Subscript o i pos) X.env v=(do
   let ov <- holding [v] (eval o X.env)
   let iv <- holding [v,ov] (eval i X.env)
   standAt pos
   holding [v,ov,iv] (setItem ov iv v)
   release [v,ov,iv] []):=by intro _;rfl):PG X (.Subscript o i pos) (qGb to ti t):=by
 intro pins s σ H v u Q I r h;rw[ha];refine uD (wpAny_holding (thn (ho pins s σ H _ I h) λov s1 ⟨x,H1,I1,r1,q1⟩=>?_));refine uD (wpAny_holding (thn (hi pins s1 σ H1 _ I1 q1) λiv s2 ⟨y,H2,I2,r2,q2⟩=>?_));refine uD (wpAny_standAt (uD (wpAny_holding (thn (hs pins s2 σ H2 x y v ov iv u _ I2 r1 r2 r q2) λ_ s3 ⟨H3,I3,q3⟩=>?_))));exact wpAny_release ⟨σ,H3,I3,q3⟩
noncomputable def tAsg(te:TE)(g:TG):TS:=λD σ H=>te σ H λx H1=>g x σ H1 D.nx
theorem ps_asg{tg e:Expr}{te:TE}{g:TG}(he:PE X e te)(hg:PG X tg g)(hs:swapsWithSole [tg] e pos.line X.env=pure false:=by rfl)(hw:swappedStores [tg] e X.env=pure none:=by rfl)
  (h1:(assignEach [tg] X.env).map (·.2)=[assign tg X.env]:=by rfl):PS X (.Assign [tg] e pos) (tAsg te g):=by
 intro pins s σ H D I h;refine wpAny_Assign_stores (thn (he pins s σ H _ I h) λv s1 ⟨x,H1,I1,r1,q1⟩=>?_) hs hw;rw[h1];exact thn (hg pins s1 σ H1 x v _ I1 r1 q1) λ_ s2 q=>q
end
set_option genInjectivity false in structure It where
 go:Nat->Hp->Prop
 yld:Nat->Hp->V->Hp->Prop
 stop:Nat->Hp->Prop
def ZS(X:Cx)(pins:List (Addr×Obj))(H:Hp)(b:Addr):Prop:=
 H b=none/\b≠X.env.locals/\b∉X.fs/\(b∈X.ex\/X.s₀.heap.objs.size<=b)/\(∀x c,X.env.cells.lookup x=some c->c≠b)/\∀p∈X.pn++pins,p.1≠b
theorem Inv.fpOk{X:Cx}{pins:List (Addr×Obj)}{σ:St}{H H':Hp}{s:Shared}{b:Addr}(I:Inv X pins σ H s)(hb:s.heap.objs.size<=b)(hn:H' b=none):ZS X pins H' b:=by
 refine⟨hn,vi (wG I.lt hb),I.nofs hb,.inr (wH I.sz hb),λx c e z=>?_,λp hp z=>?_⟩
 ·obtain⟨v,q⟩:=I.cell x c e;exact absurd (wG q.lt (by rw[z];exact hb)) (wf _)
 ·exact absurd (wG (Heap.lt_size (I.pin p hp).1) (by rw[z];exact hb)) (wf _)
structure A6(P:Program)(w:World)(K:PySem.W.Frag)(tg:Expr)(J:It)(fp:List Addr)(it:Addr)(tn:Nat->Heap->Prop):Prop where
 mem:it∈fp
 obj:∀i h,tn i h->∀b∈fp,∃o,h.get? b=some o/\∀v,o.data≠.cell v
 keep:∀i h h',tn i h->(∀b∈fp,∀o,h.get? b=some o->h'.get? b=some o)->tn i h'
 item:∀(X:Cx),X.prog=P->X.w=w->X.K=K->X.calm=true->∀(i:Nat) (pins:List (Addr×Obj)) (s:Shared) (σ:St) (H:Hp) (E:Value->Shared->Prop),Inv X pins σ H s->(∀b∈fp,ZS X pins H b)->tn i s.heap->J.go i H ->
  wpAny (model P w) X.A (pyNext (.ref it)) (λr s1=>∃u,r=some u/\
   wpAny (model P w) X.A (letOwnedTupleGo tg (.ref it) u) (λ_ s2=>∃x H',Inv X pins σ H' s2/\RelV x u/\J.yld i H x H'/\tn (i+1) s2.heap/\∀b∈fp,H' b=none) E s1) E s
 done:∀(X:Cx),X.prog=P->X.w=w->X.K=K->X.calm=true->∀(i:Nat) (pins:List (Addr×Obj)) (s:Shared) (σ:St) (H:Hp) (E:Value->Shared->Prop),Inv X pins σ H s->(∀b∈fp,ZS X pins H b)->tn i s.heap->J.stop i H ->
  wpAny (model P w) X.A (pyNext (.ref it)) (λr s1=>r=none/\Inv X pins σ H s1) E s
 self:∀(A:Around) (i:Nat) (s:Shared) (Q:Value->Shared->Prop) (E:Value->Shared->Prop),tn i s.heap->Q (.ref it) s->wpAny (model P w) A (pyIter (.ref it)) Q E s
noncomputable abbrev TI:=St->Hp->(It->Hp->Prop)->Prop
def PIE(X:Cx)(pins:List (Addr×Obj))(σ:St)(tg:Expr)(R:It->Hp->Prop)(itv:Value)(s2:Shared):Prop:=
 ∃(it:Addr) (fp:List Addr) (tn:Nat->Heap->Prop) (J:It) (H':Hp),itv=.ref it/\Inv X pins σ H' s2/\A6 X.prog X.w X.K tg J fp it tn/\tn 0 s2.heap/\(∀b∈fp,ZS X pins H' b)/\R J H'
def _P(X:Cx)(tg iter:Expr)(wi:TI):Prop:=
 ∀(pins:List (Addr×Obj)) (s:Shared) (σ:St) (H:Hp) (R:It->Hp->Prop),Inv X pins σ H s->wi σ H R ->
  wpAny (model X.prog X.w) X.A (eval iter X.env) (λv s1=>wpAny (model X.prog X.w) X.A (pyIter v) (PIE X pins σ tg R) X.xe s1) X.xe s
theorem qBQ{M:Model}{A:Around}{E:Value->Shared->Prop}{s:Shared}{tg:Expr}{it:Addr}{u:Value}{o:Obj}{n:String}{vs:Array Value}{Q:Unit->Shared->Prop}(ho:s.heap.get? it=some o)(hc:o.cls=.type n)(hd:o.data=.fields vs)
  (hn:["enumerate","zip","dict_itemiterator","dict_reverseitemiterator","odict_iterator","itertools.zip_longest","itertools.pairwise"].contains n=false) (hQ:Q () s):wpAny M A (letOwnedTupleGo tg (.ref it) u) Q E s:=by
 unfold letOwnedTupleGo;cases tg<;>first
  |exact uE hQ
  | (cases u<;>first
    |exact uE hQ
    | (refine uD (wpAny_load ho ?_)
       rw[hc,hd];show wpAny M A (if (["enumerate","zip","dict_itemiterator","dict_reverseitemiterator","odict_iterator","itertools.zip_longest","itertools.pairwise"].contains n&&vs[0]?==some (rawInt _))=true then _ else _) Q E s;rw[if_neg (by intro h;rw[hn,uB]at h;cases h)];exact uE hQ))
noncomputable def Itl(K:PySem.W.Frag)(a:Addr):It:=
 ⟨λi H=>∃xs x,SqL K H a xs/\xs[i]?=some x,λi H x H'=>H'=H/\∀xs,SqL K H a xs->xs[i]?=some x,λi H=>∃xs,SqL K H a xs/\xs.length<=i⟩
noncomputable def Itt(K:PySem.W.Frag)(a:Addr):It:=
 ⟨λi H=>∃xs x,SqT K H a xs/\xs[i]?=some x,λi H x H'=>H'=H/\∀xs,SqT K H a xs->xs[i]?=some x,λi H=>∃xs,SqT K H a xs/\xs.length<=i⟩
noncomputable def Itr(lo:Int)(n:Nat):It:=⟨λi _=>i<n,λi H x H'=>H'=H/\x=.int (lo+i),λi _=>n<=i⟩
theorem turn_list{P:Program}{w:World}{K:PySem.W.Frag}{tg:Expr}(a it:Addr):A6 P w K tg (Itl K a) [it] it (λi h=>h.IsListIter it a i) where
 mem:=by simp
 obj:=λi h st b hb=>by
  have e:b=it:=by simpa using hb
  subst e;obtain⟨o,e,c,d⟩:=st;exact⟨o,e,λv z=>by rw[d]at z;cases z⟩
 keep:=λi h h' st k=>st.at λo e=>k it (by simp) o e
 item:=by
  intro X hP hw hK hc i pins s σ H E I hf st hg;subst hP hw hK;obtain⟨xs,x,hq,hx⟩:=hg;obtain⟨its,rv,p,hz⟩:=I.list hq;obtain⟨u,hu,ru⟩:=rv.get hx;obtain⟨f0,f1,f2,f3,f4,f5⟩:=hf it (by simp);refine wpAny_pyNext_list_item st p.isList (x:=u) (by simpa using hu) λh' st' sb=>?_;have I1:Inv X pins σ H { s with heap:=h' }:=I.turned (t':=s.toks) (λb o hb e=>(sb.2 b hb).trans e) f0 f1 f3 f4 f5;obtain⟨o,e,c,d⟩:=id st';exact⟨u,rfl,qBQ (s:={ s with heap:=h' }) e c d (by decide) ⟨x,H,I1,ru,⟨rfl,λys hy=>by rw[I.list_inj hy hq];exact hx⟩,st',λb hb=>(hf b hb).1⟩⟩
 done:=by
  intro X hP hw hK hc i pins s σ H E I hf st hg;subst hP hw hK;obtain⟨xs,hq,hx⟩:=hg;obtain⟨its,rv,p,hz⟩:=I.list hq;obtain⟨f0,f1,f2,f3,f4,f5⟩:=hf it (by simp);have hl:=rv.length;exact wpAny_pyNext_list_end (I.ok.hd hc) st p.isList (by simp;omega) λh' eb=>⟨rfl,I.turned (t':=s.toks) (λb o hb e=>eb b o hb e) f0 f1 f3 f4 f5⟩
 self:=λ_ _ _ _ _ st h=>wpAny_pyIter_listiter st h
theorem turn_tuple{P:Program}{w:World}{K:PySem.W.Frag}{tg:Expr}(a it:Addr):A6 P w K tg (Itt K a) [it] it (λi h=>h.IsTupleIter it a i) where
 mem:=by simp
 obj:=λi h st b hb=>by
  have e:b=it:=by simpa using hb
  subst e;obtain⟨o,e,c,d⟩:=st;exact⟨o,e,λv z=>by rw[d]at z;cases z⟩
 keep:=λi h h' st k=>st.at λo e=>k it (by simp) o e
 item:=by
  intro X hP hw hK hc i pins s σ H E I hf st hg;subst hP hw hK;obtain⟨xs,x,hq,hx⟩:=hg;obtain⟨its,rv,p,hz⟩:=I.tuple hq;obtain⟨u,hu,ru⟩:=rv.get hx;obtain⟨f0,f1,f2,f3,f4,f5⟩:=hf it (by simp);refine wpAny_pyNext_tuple_item st (show s.heap.IsTuple a its.toArray from p) (x:=u) (by simpa using hu) λh' st' sb=>?_;have I1:Inv X pins σ H { s with heap:=h' }:=I.turned (t':=s.toks) (λb o hb e=>(sb.2 b hb).trans e) f0 f1 f3 f4 f5;obtain⟨o,e,c,d⟩:=id st';exact⟨u,rfl,qBQ (s:={ s with heap:=h' }) e c d (by decide) ⟨x,H,I1,ru,⟨rfl,λys hy=>by rw[I.tuple_inj hy hq];exact hx⟩,st',λb hb=>(hf b hb).1⟩⟩
 done:=by
  intro X hP hw hK hc i pins s σ H E I hf st hg;subst hP hw hK;obtain⟨xs,hq,hx⟩:=hg;obtain⟨its,rv,p,hz⟩:=I.tuple hq;obtain⟨f0,f1,f2,f3,f4,f5⟩:=hf it (by simp);have hl:=rv.length;exact wpAny_pyNext_tuple_end (I.ok.hd hc) st (show s.heap.IsTuple a its.toArray from p) (by simp;omega) λh' eb=>⟨rfl,I.turned (t':=s.toks) (λb o hb e=>eb b o hb e) f0 f1 f3 f4 f5⟩
 self:=λ_ _ _ _ _ st h=>wpAny_pyIter_tupleiter st h
theorem N3{P:Program}{w:World}{K:PySem.W.Frag}{tg:Expr}(it:Addr)(lo:Int)(n:Nat):A6 P w K tg (Itr lo n) [it] it (λi h=>IsRangeIter h it (lo+(i:Nat)*1) ((n:Int)-(i:Nat)) 1) where
 mem:=by simp
 obj:=λi h st b hb=>by
  have e:b=it:=by simpa using hb
  subst e;exact⟨_,st,λv z=>by
   have z':Data.fields _=Data.cell v:=z;cases z'⟩
 keep:=λi h h' st k=>k it (by simp) _ st
 item:=by
  intro X hP hw hK hc i pins s σ H E I hf st hg;subst hP hw hK;obtain⟨f0,f1,f2,f3,f4,f5⟩:=hf it (by simp);have W:=Walks.range (prog:=X.prog) (w:=X.w) (I.ok.hd hc) it lo 1 n;refine W.item i s _ _ hg st λv h' tk hv st' kk=>?_;obtain⟨t,rfl⟩:=hv;have I1:Inv X pins σ H { s with heap:=h',toks:=tk }:=I.turned (λb o hb e=>kk b o (by simpa using hb) e) f0 f1 f3 f4 f5;refine⟨_,rfl,qBQ (s:={ s with heap:=h',toks:=tk }) (n:="range_iterator") st' rfl rfl (by decide) ⟨.int (lo+i),H,I1,⟨t,?_⟩,⟨rfl,rfl⟩,st',λb hb=>(hf b hb).1⟩⟩;rw[Int.mul_one]
 done:=by
  intro X hP hw hK hc i pins s σ H E I hf st hg;subst hP hw hK;obtain⟨f0,f1,f2,f3,f4,f5⟩:=hf it (by simp);exact wpAny_pyNext_range_end (I.ok.hd hc) st (by have:n<=i:=hg;omega) λh' eb=>⟨rfl,I.turned (t':=s.toks) (λb o hb e=>eb b o hb e) f0 f1 f3 f4 f5⟩
 self:=λ_ _ _ _ _ st h=>wpAny_pyIter_rangeiter st h
section
variable{X:Cx}{tg:Expr}
theorem G4{pins:List (Addr×Obj)}{σ:St}{H:Hp}{s:Shared}{R:It->Hp->Prop}{E:Value->Shared->Prop}{lo hi:Int}{t u v:Tok}{tk:Nat}(I:Inv X pins σ H s)(h1:-(2 ^ 62)<=lo)(h2:lo<2 ^ 62)(h3:-(2 ^ 62)<=hi)(h4:hi<2 ^ 62)
  (q:R (Itr lo (hi-lo).toNat) H):wpAny (model X.prog X.w) X.A (pyIter (.ref s.heap.objs.size)) (PIE X pins σ tg R) E { s with heap:=s.heap.push { cls:=.type "range",data:=.fields #[.int lo t,.int hi u,.int 1 v] },toks:=tk }:=by
 refine wpAny_pyIter_range (IsRange.new ..) (small_one h1 h2 h3 h4) ?_;have I1:Inv X pins σ H { s with heap:=s.heap.push { cls:=.type "range",data:=.fields #[.int lo t,.int hi u,.int 1 v] },toks:=tk }:=I.kept λb o e=>Heap.get?_push_of_some _ e;refine⟨(s.heap.push { cls:=.type "range",data:=.fields #[.int lo t,.int hi u,.int 1 v] }).objs.size,[(s.heap.push { cls:=.type "range",data:=.fields #[.int lo t,.int hi u,.int 1 v] }).objs.size],_,_,H,rfl,
  I1.kept (t':=tk) λb o e=>Heap.get?_push_of_some _ e,N3 _ lo (hi-lo).toNat,?_,λb hb=>?_,q⟩
 ·have e1:lo+((0:Nat):Int)*1=lo:=by simp
  have e2:(((hi-lo).toNat:Nat):Int)-((0:Nat):Int)=Builtin.Range.rangeSize lo hi 1:=by rw[rangeSize_one];split<;>omega
  show IsRangeIter _ _ (lo+((0:Nat):Int)*1) ((((hi-lo).toNat:Nat):Int)-((0:Nat):Int)) 1;rw[e1,e2];exact Heap.get?_push_size _ rfl
 ·have e:b=(s.heap.push { cls:=.type "range",data:=.fields #[.int lo t,.int hi u,.int 1 v] }).objs.size:=by simpa using hb
  subst e;exact I1.fpOk (wF _) (I1.hok.fresh (wF _))
noncomputable def qEQ(ta:TA):TI:=λσ H R=>ta σ H λvs H1=>∃j:Int,vs=[.int j]/\-(2 ^ 62)<=j/\j<2 ^ 62/\R (Itr 0 j.toNat) H1
noncomputable def qEY(ta:TA):TI:=λσ H R=>ta σ H λvs H1=>∃i j:Int,vs=[.int i,.int j]/\(-(2 ^ 62)<=i/\i<2 ^ 62/\-(2 ^ 62)<=j/\j<2 ^ 62)/\R (Itr i (j-i).toNat) H1
theorem pi_range1{a:Expr}{ta:TA}{p pos:Pos}(hg:Gl X "range")(hm:X.mg "range"=none)(ha:PA X [a] ta)(hs:starEach [a] X.env=[(false,eval a X.env)]:=by rfl):_P X tg (.Call (.Name "range" p) [a] [] pos) (qEQ ta):=by
 intro pins s σ H R I h;refine Call_ (ld_blt I hg hm boot_range (PyProof.Rows.callWith_type1 (thn (ha pos pins s σ H _ I h) λus s1 ⟨vs,H1,I1,r1,q1⟩=>?_) hs rfl));obtain⟨j,e,q1,q2,q⟩:=q1;subst e;cases r1 with
 |cons r rr=>
  cases rr;obtain⟨t,rfl⟩:=r;exact call_range_1 (G4 I1 (by omega) (by omega) q1 q2 (by simpa using q))
theorem pi_range2{a b:Expr}{ta:TA}{p pos:Pos}(hg:Gl X "range")(hm:X.mg "range"=none)(ha:PA X [a,b] ta)(hs:starEach [a,b] X.env=[(false,eval a X.env),(false,eval b X.env)]:=by rfl)(hs2:starEach [b] X.env=[(false,eval b X.env)]:=by rfl):
  _P X tg (.Call (.Name "range" p) [a,b] [] pos) (qEY ta):=by
 intro pins s σ H R I h;refine Call_ (ld_blt I hg hm boot_range (PyProof.Rows.callWith_type1 (thn (ha pos pins s σ H _ I h) λus s1 ⟨vs,H1,I1,r1,q1⟩=>?_) (by rw[hs,hs2]) (by rw[hs2];rfl)));obtain⟨i,j,e,⟨q1,q2,q3,q4⟩,q⟩:=q1;subst e;cases r1 with
 |cons r rr=>
  cases rr with
  |cons r' rr=>
   cases rr;obtain⟨t,rfl⟩:=r;obtain⟨t',rfl⟩:=r';exact call_range_2 (G4 I1 q1 q2 q3 q4 q)
noncomputable def qGY(wi:TI)(g:TG)(tb:TS):TS:=λD σ H=>wi σ H λJ H1=>∃W:Nat->Nat->St->Hp->Prop,(∃m,W 0 m σ H1)/\∀i m σ H,W i m σ H ->
 (J.stop i H/\D.nx σ H)\/(J.go i H/\∃N:St->Hp->Prop,(∀σ' H',N σ' H'->∃m',m'<m/\W (i+1) m' σ' H')/\∀x H',J.yld i H x H'->g x σ H' λσ2 H2=>tb { D with nx:=N,ct:=N,bk:=D.nx } σ2 H2)
noncomputable def A2(fp:List Addr)(h:Heap):List (Addr×Obj):=fp.filterMap λb=>(h.get? b).map λo=>(b,o)
theorem jJ{fp:List Addr}{h:Heap}{b:Addr}{o:Obj}(hb:b∈fp)(e:h.get? b=some o):(b,o)∈A2 fp h:=List.mem_filterMap.mpr ⟨b,hb,by rw[e];rfl⟩
theorem T8{fp:List Addr}{h:Heap}{p:Addr×Obj}(hp:p∈A2 fp h):p.1∈fp/\h.get? p.1=some p.2:=by
 obtain⟨b,hb,e⟩:=List.mem_filterMap.mp hp;cases q:h.get? b with
 |none=>rw[q]at e;cases e
 |some o=>
  rw[q]at e;have e':(b,o)=p:=Option.some.inj e;subst e';exact⟨hb,q⟩
theorem Inv.pinned{pins:List (Addr×Obj)}{σ:St}{H:Hp}{s:Shared}{fp:List Addr}(I:Inv X pins σ H s)(hf:∀b∈fp,ZS X pins H b)(ho:∀b∈fp,∃o,s.heap.get? b=some o/\∀v,o.data≠.cell v):Inv X (pins++A2 fp s.heap) σ H s:=
 I.pins_of λp hp=>(wL.mp hp).elim (λz=>I.pin p (wT _ z)) λz=>by
  obtain⟨hb,e⟩:=T8 z;obtain⟨f0,f1,f2,_⟩:=hf p.1 hb;obtain⟨o,e',d⟩:=ho p.1 hb;rw[e]at e';cases e';exact⟨e,f0,f1,f2,d⟩
theorem Inv.unpinned{pins pl:List (Addr×Obj)}{σ:St}{H:Hp}{s:Shared}(I:Inv X (pins++pl) σ H s):Inv X pins σ H s:=I.pins_of λp hp=>I.pin p (wT _ (wQ _ hp))
theorem ps_for{iter:Expr}{body:List Stmt}{wi:TI}{g:TG}{tb:TS}{pos:Pos}(hp:PassesOwn (model X.prog X.w) X.A X.env X.xe)(hc:X.calm=true)(hi:_P X tg iter wi)(hg:PG X tg g)(hb:PSs X body tb)
  (hs:∀x,foldedSetIterable iter X.env x=pure x:=by intro _;rfl):PS X (.For tg iter body [] pos) (qGY wi g tb):=by
 intro pins s σ H D I h;refine wpAny_For (thn (hi pins s σ H _ I h) λv s1 h1=>thn h1 λitv s2 h2=>?_) hs;obtain⟨it,fp,tn,J,H2,e,I2,T,st2,f2,W,⟨m0,w0⟩,qAO⟩:=h2;subst e;have stat:∀{H':Hp},(∀b∈fp,H' b=none)->∀b∈fp,ZS X pins H' b:=λhn b hb=>⟨hn b hb,(f2 b hb).2⟩
 refine codeAny_forLoop_any (λn s'=>∃i σ' H',Inv X pins σ' H' s'/\tn i s'.heap/\(∀b∈fp,H' b=none)/\W i n σ' H') ?_ m0 ⟨0,σ,H2,I2,st2,λb hb=>(f2 b hb).1,w0⟩;rintro n s3 ⟨i,σ3,H3,I3,st3,fr3,w3⟩;rcases qAO i n σ3 H3 w3 with⟨stop,qn⟩|⟨go,N,hN,step⟩
 ·refine wpAny_passesOwn hp (thn (T.done X rfl rfl rfl hc i pins s3 σ3 H3 X.xe I3 (stat fr3) st3 stop) λr s4 ⟨hr,I4⟩=>?_);subst hr;exact wpAny_execs_nil ⟨σ3,H3,I4,qn⟩
 ·refine wpAny_passesOwn hp (thn (T.item X rfl rfl rfl hc i pins s3 σ3 H3 X.xe I3 (stat fr3) st3 go) λr s4 ⟨u,hr,h4⟩=>?_);subst hr;refine wpAny_passesOwn hp (thn h4 λ_ s5 ⟨x,H5,I5,r5,y5,st5,fr5⟩=>?_);have I5':=I5.pinned (stat fr5) (T.obj _ _ st5);refine wpAny_passesOwn hp (thn (hg _ s5 σ3 H5 x u _ I5' r5 (step x H5 y5)) λ_ s6 ⟨σ6,H6,I6,q6⟩=>?_);refine wpAny_passesOwn hp (thn (hb _ s6 σ6 H6 _ I6 q6) λf s7 q7=>?_);have again:∀{σ7:St}{H7:Hp},Inv X (pins++A2 fp s5.heap) σ7 H7 s7->N σ7 H7->∃m,m<n/\∃i σ' H',Inv X pins σ' H' s7/\tn i s7.heap/\(∀b∈fp,H' b=none)/\W i m σ' H':=λ{σ7 H7} I7 n7=>by
   obtain⟨m',hm,w7⟩:=hN σ7 H7 n7;refine⟨m',hm,i+1,σ7,H7,I7.unpinned,T.keep _ _ _ st5 λb hb o e=>(I7.pin (b,o) (wT _ (wT _ (jJ hb e)))).1,λb hb=>?_,w7⟩;obtain⟨o,e,d⟩:=T.obj _ _ st5 b hb;exact(I7.pin (b,o) (wT _ (wT _ (jJ hb e)))).2.1
  cases f with
  |next=>obtain⟨σ7,H7,I7,n7⟩:=q7;exact again I7 n7
  |cont=>obtain⟨σ7,H7,I7,n7⟩:=q7;exact again I7 n7
  |brk=>obtain⟨σ7,H7,I7,q7⟩:=q7;exact⟨σ7,H7,I7.unpinned,q7⟩
  |ret v=>obtain⟨x7,σ7,H7,I7,r7,q7⟩:=q7;exact⟨x7,σ7,H7,I7.unpinned,r7,q7⟩
end
noncomputable abbrev R2:=V->V->Hp->VK->Prop
def OpR(X:Cx)(f:Value->Value->Sem Value)(r:R2):Prop:=
 ∀(pins:List (Addr×Obj)) (s:Shared) (σ:St) (H:Hp) (x y:V) (v u:Value) (Q:VK),Inv X pins σ H s->RelV x v->RelV y u->r x y H Q ->
  wpAny (model X.prog X.w) X.A (f v u) (EP X pins σ Q) X.xe s
def UnR(X:Cx)(f:Value->Sem Value)(r:V->Hp->VK->Prop):Prop:=
 ∀(pins:List (Addr×Obj)) (s:Shared) (σ:St) (H:Hp) (x:V) (v:Value) (Q:VK),Inv X pins σ H s->RelV x v->r x H Q ->
  wpAny (model X.prog X.w) X.A (f v) (EP X pins σ Q) X.xe s
def qe(X:Cx)(f:Value)(r:List V->Hp->VK->Prop):Prop:=
 ∀(pins:List (Addr×Obj)) (s:Shared) (σ:St) (H:Hp) (xs:List V) (us:List Value) (Q:VK),Inv X pins σ H s->Vals xs us->r xs H Q ->
  wpAny (model X.prog X.w) X.A (call f us) (EP X pins σ Q) X.xe s
noncomputable def tOp(r:R2)(ta tb:TE):TE:=λσ H Q=>ta σ H λx H1=>tb σ H1 λy H2=>r x y H2 Q
noncomputable def tUn(r:V->Hp->VK->Prop)(ta:TE):TE:=λσ H Q=>ta σ H λx H1=>r x H1 Q
noncomputable def rI(C:Int->Int->Prop)(g:Int->Int->V):R2:=λx y H Q=>∃i j,x=.int i/\y=.int j/\C i j/\Q (g i j) H
noncomputable def rI0(g:Int->Int->V):R2:=λx y H Q=>∃i j,x=.int i/\y=.int j/\Q (g i j) H
def rU(g:Int->V):V->Hp->VK->Prop:=λx H Q=>∃i,x=.int i/\Q (g i) H
section
variable{X:Cx}{a b c:Expr}{ta tb tc:TE}{pos:Pos}
theorem qr(ha:PE X a ta)(hb:PE X b tb){pins:List (Addr×Obj)}{s:Shared}{σ:St}{H:Hp}{R:V->V->Hp->Prop}(I:Inv X pins σ H s)
  (h:ta σ H λx H1=>tb σ H1 λy H2=>R x y H2){Q:Value->Shared->Prop}{f:Value->Value->Sem Value}
  (hf:∀v u s2 x y H2,Inv X pins σ H2 s2->RelV x v->RelV y u->R x y H2->wpAny (model X.prog X.w) X.A (f v u) Q X.xe s2):
  wpAny (model X.prog X.w) X.A (eval a X.env) (λv s₁=>wpAny (model X.prog X.w) X.A (eval b X.env) (λu s₂=>wpAny (model X.prog X.w) X.A (f v u) Q X.xe s₂) X.xe s₁) X.xe s:=by
 refine thn (ha pins s σ H _ I h) λv s1 ⟨x,H1,I1,r1,q1⟩=>?_;refine thn (hb pins s1 σ H1 _ I1 q1) λu s2 ⟨y,H2,I2,r2,q2⟩=>?_;exact hf v u s2 x y H2 I2 r1 r2 q2
theorem pe_op{op:Operator}{r:R2}(ho:OpR X (binaryOp op) r)(ha:PE X a ta)(hb:PE X b tb):PE X (.BinOp a op b pos) (tOp r ta tb):=by
 intro pins s σ H Q I h;exact wpAny_BinOp (qr ha hb I h λv u s2 x y H2 I2 rx ry q=>ho pins s2 σ H2 x y v u Q I2 rx ry q)
theorem pe_un{op:UnaryOp}{r:V->Hp->VK->Prop}(ho:UnR X (unaryOp op) r)(ha:PE X a ta):PE X (.UnaryOp op a pos) (tUn r ta):=by
 intro pins s σ H Q I h;exact UnaryOp_ (thn (ha pins s σ H _ I h) λv s1 ⟨x,H1,I1,r1,q1⟩=>ho pins s1 σ H1 x v Q I1 r1 q1)
theorem opI{f:Value->Value->Sem Value}{C:Int->Int->Prop}{g:Int->Int->Int}
  (rule:∀(i j:Int) (t u:Tok) (s:Shared) (Q:Value->Shared->Prop) (E:Value->Shared->Prop),C i j->Q (.int (g i j) s.toks) { s with toks:=s.toks+1 }->wpAny (model X.prog X.w) X.A (f (.int i t) (.int j u)) Q E s):
  OpR X f (rI C λi j=>.int (g i j)):=by
 intro pins s σ H x y v u Q I rx ry h;obtain⟨i,j,rfl,rfl,hc,q⟩:=h;obtain⟨t,rfl⟩:=rx;obtain⟨t',rfl⟩:=ry;exact rule i j t t' s _ _ hc ⟨.int (g i j),H,I.tok _,⟨_,rfl⟩,q⟩
theorem qEk{f:Value->Value->Sem Value}{g:Int->Int->Int}
  (rule:∀(i j:Int) (t u:Tok) (s:Shared) (Q:Value->Shared->Prop) (E:Value->Shared->Prop),Q (.int (g i j) s.toks) { s with toks:=s.toks+1 }->wpAny (model X.prog X.w) X.A (f (.int i t) (.int j u)) Q E s):
  OpR X f (rI0 λi j=>.int (g i j)):=by
 intro pins s σ H x y v u Q I rx ry h;obtain⟨i,j,rfl,rfl,q⟩:=h;obtain⟨t,rfl⟩:=rx;obtain⟨t',rfl⟩:=ry;exact rule i j t t' s _ _ ⟨.int (g i j),H,I.tok _,⟨_,rfl⟩,q⟩
theorem qD3{f:Value->Value->Sem Value}{g:Int->Int->Bool}
  (rule:∀(i j:Int) (t u:Tok) (s:Shared) (Q:Value->Shared->Prop) (E:Value->Shared->Prop),Q (.bool (g i j)) s->wpAny (model X.prog X.w) X.A (f (.int i t) (.int j u)) Q E s):
  OpR X f (rI0 λi j=>.bl (g i j)):=by
 intro pins s σ H x y v u Q I rx ry h;obtain⟨i,j,rfl,rfl,q⟩:=h;obtain⟨t,rfl⟩:=rx;obtain⟨t',rfl⟩:=ry;exact rule i j t t' s _ _ ⟨.bl (g i j),H,I,rfl,q⟩
def CDiv(i j:Int):Prop:=0<j/\j<1073741824
def CPow(i j:Int):Prop:=0<=j/\j<=1000000/\i.natAbs<2 ^ 64
def CMul(i j:Int):Prop:=(-(2 ^ 64)<i/\i<2 ^ 64)\/(-(2 ^ 64)<j/\j<2 ^ 64)
theorem CMul.ok{i j:Int}(h:CMul i j):IntMulOk i j:=by
 rcases h with⟨h1,h2⟩|⟨h1,h2⟩
 ·exact .of_left (intBits_le_64 h1 h2)
 ·exact .of_right (intBits_le_64 h1 h2)
theorem op_add:OpR X (binaryOp .Add) (rI0 λi j=>.int (i+j)):=qEk λ_ _ _ _ _ _ _ q=>add_int q
theorem op_sub:OpR X (binaryOp .Sub) (rI0 λi j=>.int (i-j)):=qEk λ_ _ _ _ _ _ _ q=>sub_int q
theorem op_mul:OpR X (binaryOp .Mult) (rI CMul λi j=>.int (i*j)):=opI λ_ _ _ _ _ _ _ hc q=>mul_int q hc.ok
theorem op_fdiv:OpR X (binaryOp .FloorDiv) (rI CDiv λi j=>.int (i / j)):=opI λi j _ _ _ _ _ hc q=>by
 have h1:(0:Int)<j:=hc.1;have h2:j<1073741824:=hc.2;exact floordiv_int (by omega) (by rw[Int.fdiv_eq_ediv_of_nonneg i (by omega)];exact q) (.inl (PyProof.noPylong_small (by omega)))
theorem op_mod:OpR X (binaryOp .Mod) (rI (λ_ j=>0<j) λi j=>.int (i % j)):=opI λi j _ _ _ _ _ hc q=>by
 have h1:(0:Int)<j:=hc;exact mod_int' (by omega) (by rw[Int.fmod_eq_emod_of_nonneg i (by omega)];exact q)
theorem op_modN:OpR X (binaryOp .Mod) (rI (λ_ j=>j≠0) λi j=>.int (i.fmod j)):=opI λ_ _ _ _ _ _ _ hc q=>mod_int' hc q
theorem op_pow:OpR X (binaryOp .Pow) (rI CPow λi j=>.int (i ^ j.toNat)):=opI λ_ _ _ _ _ _ _ hc q=>pow_int_small hc.1 hc.2.1 hc.2.2 q
theorem op_and:OpR X (binaryOp .BitAnd) (rI0 λi j=>.int (Builtin.bitAnd i j)):=qEk λ_ _ _ _ _ _ _ q=>and_int q
theorem unI{f:Value->Sem Value}{g:Int->Int}
  (rule:∀(i:Int) (t:Tok) (s:Shared) (Q:Value->Shared->Prop) (E:Value->Shared->Prop),Q (.int (g i) s.toks) { s with toks:=s.toks+1 }->wpAny (model X.prog X.w) X.A (f (.int i t)) Q E s):
  UnR X f (rU λi=>.int (g i)):=by
 intro pins s σ H x v Q I rx h;obtain⟨i,rfl,q⟩:=h;obtain⟨t,rfl⟩:=rx;exact rule i t s _ _ ⟨.int (g i),H,I.tok _,⟨_,rfl⟩,q⟩
theorem un_neg:UnR X (unaryOp .USub) (rU λi=>.int (-i)):=unI λ_ _ _ _ _ q=>neg_int q
end
section
variable{X:Cx}{a b c:Expr}{ta tb tc:TE}{pos:Pos}
theorem qAE{pins:List (Addr×Obj)}{σ:St}{H:Hp}{s:Shared}{Q:VK}{k k':Bool}(I:Inv X pins σ H s)(q:Q (.bl k) H)(e:k=k'):EP X pins σ Q (.bool k') s:=by
 subst e;exact⟨.bl k,H,I,rfl,q⟩
theorem op_lt:OpR X (compareOp .Lt) (rI0 λi j=>.bl (decide (i<j))):=qD3 λ_ _ _ _ _ _ _ q=>lt_int q
theorem op_le:OpR X (compareOp .LtE) (rI0 λi j=>.bl (decide (i<=j))):=qD3 λ_ _ _ _ _ _ _ q=>le_int q
theorem op_gt:OpR X (compareOp .Gt) (rI0 λi j=>.bl (decide (j<i))):=qD3 λ_ _ _ _ _ _ _ q=>gt_int q
theorem op_ge:OpR X (compareOp .GtE) (rI0 λi j=>.bl (decide (j<=i))):=qD3 λ_ _ _ _ _ _ _ q=>ge_int q
theorem op_isN:OpR X (compareOp .Is) (λx y H Q=>y=.non/\Q (.bl (decide (x=.non))) H):=by
 intro pins s σ H x y v u Q I rx ry h;obtain⟨rfl,q⟩:=h;cases ry;refine is_none_gen (qAE I q ?_);cases x<;>first
  | (cases rx;rfl)
  | (obtain⟨t,rfl⟩:=rx;rfl)
theorem op_notN:OpR X (compareOp .IsNot) (λx y H Q=>y=.non/\Q (.bl (!decide (x=.non))) H):=by
 intro pins s σ H x y v u Q I rx ry h;obtain⟨rfl,q⟩:=h;cases ry;refine isnot_none_gen (qAE I q ?_);cases x<;>first
  | (cases rx;rfl)
  | (obtain⟨t,rfl⟩:=rx;rfl)
theorem OpR.or{f:Value->Value->Sem Value}{r r':R2}(h:OpR X f r)(h':OpR X f r'):OpR X f (λx y H Q=>r x y H Q\/r' x y H Q):=by
 intro pins s σ H x y v u Q I rx ry q;rcases q with q|q
 ·exact h pins s σ H x y v u Q I rx ry q
 ·exact h' pins s σ H x y v u Q I rx ry q
theorem pe_cmpR{op:CmpOp}{r:R2}(ho:OpR X (compareOp op) r)(ha:PE X a ta)(hb:PE X b tb)(hm:behindInMarks op b=false):PE X (.Compare a [op] [b] pos) (tOp r ta tb):=by
 intro pins s σ H Q I h;exact wpAny_Compare1 (qr ha hb I h λv u s2 x y H2 I2 rx ry q=>ho pins s2 σ H2 x y v u Q I2 rx ry q) hm
noncomputable def qC2(t:TE):TT:=λσ H Q=>t σ H λx H'=>∃k,x=.bl k/\Q k H'
theorem pt_cmpR{op:CmpOp}{r:R2}(ho:OpR X (compareOp op) r)(ha:PE X a ta)(hb:PE X b tb)(hm:behindInMarks op b=false):PT X (.Compare a [op] [b] pos) (qC2 (tOp r ta tb)):=by
 intro pins s σ H Q I h;refine wpAny_isTrue_Compare1 (thn (ha pins s σ H _ I h) λv s1 ⟨x,H1,I1,r1,q1⟩=>thn (hb pins s1 σ H1 _ I1 q1) λu s2 ⟨y,H2,I2,r2,q2⟩=>
  thn (ho pins s2 σ H2 x y v u _ I2 r1 r2 q2) λc s3 ⟨z,H3,I3,r3,k,e,q3⟩=>?_) hm
 subst e;cases r3;exact uJ ⟨H3,I3,q3⟩
noncomputable def tChain(r r':R2)(ta tb tc:TE):TE:=λσ H Q=>ta σ H λx H1=>tb σ H1 λy H2=>r x y H2 λz H3=>∃k,z=.bl k/\
 (if k=true then tc σ H3 λw' H4=>r' y w' H4 Q else Q (.bl false) H3)
theorem pe_chain{op op':CmpOp}{r r':R2}(ho:OpR X (compareOp op) r)(ho':OpR X (compareOp op') r')(ha:PE X a ta)(hb:PE X b tb)(hc:PE X c tc)
  (hm:lastMarks [op,op'] [b,c]=false:=by with_unfolding_all rfl):PE X (.Compare a [op,op'] [b,c] pos) (tChain r r' ta tb tc):=by
 intro pins s σ H Q I h;refine Compare_chain (thn (ha pins s σ H _ I h) λv s1 ⟨x,H1,I1,r1,q1⟩=>chain_link (thn (hb pins s1 σ H1 _ I1 q1) λu s2 ⟨y,H2,I2,r2,q2⟩=>
  thn (ho pins s2 σ H2 x y v u _ I2 r1 r2 q2) λd s3 ⟨z,H3,I3,r3,k,e,q3⟩=>?_)) hm
 subst e;cases r3;refine uJ ?_;cases k with
 |false=>exact ite_ff ⟨.bl false,H3,I3,rfl,q3⟩
 |true=>exact ite_tt (chain_last (thn (hc pins s3 σ H3 _ I3 q3) λw' s4 ⟨z',H4,I4,r4,q4⟩=>ho' pins s4 σ H4 y z' u w' Q I4 r2 r4 q4))
theorem pt_chain{op op':CmpOp}{r r':R2}(ho:OpR X (compareOp op) r)(ho':OpR X (compareOp op') r')(ha:PE X a ta)(hb:PE X b tb)(hc:PE X c tc)
  (hm:lastMarks [op,op'] [b,c]=false:=by with_unfolding_all rfl):PT X (.Compare a [op,op'] [b,c] pos) (qC2 (tChain r r' ta tb tc)):=by
 intro pins s σ H Q I h;refine isTrue_chain (thn (ha pins s σ H _ I h) λv s1 ⟨x,H1,I1,r1,q1⟩=>test_link (thn (hb pins s1 σ H1 _ I1 q1) λu s2 ⟨y,H2,I2,r2,q2⟩=>
  thn (ho pins s2 σ H2 x y v u _ I2 r1 r2 q2) λd s3 ⟨z,H3,I3,r3,k,e,q3⟩=>?_)) hm
 subst e;cases r3;refine uJ ?_;cases k with
 |false=>
  obtain⟨k',e',q'⟩:=q3;cases e';exact ite_ff ⟨H3,I3,q'⟩
 |true=>
  refine ite_tt (test_last (thn (hc pins s3 σ H3 _ I3 q3) λw' s4 ⟨z',H4,I4,r4,q4⟩=>thn (ho' pins s4 σ H4 y z' u w' _ I4 r2 r4 q4) λd' s5 ⟨z2,H5,I5,r5,k2,e2,q5⟩=>?_));subst e2;cases r5;exact uJ ⟨H5,I5,q5⟩
theorem F5:(sizeLine:Nat)<2 ^ 63:=by rw[sizeLine_eq];decide
theorem vals1{x:V}{us:List Value}(r:Vals [x] us):∃u,us=[u]/\RelV x u:=by
 cases r with
 |cons r1 r2=>cases r2;exact⟨_,rfl,r1⟩
theorem vals2{x y:V}{us:List Value}(r:Vals [x,y] us):∃u w',us=[u,w']/\RelV x u/\RelV y w':=by
 cases r with
 |cons r1 r2=>
  cases r2 with
  |cons r3 r4=>cases r4;exact⟨_,_,rfl,r1,r3⟩
theorem call_max2(hc:X.calm=true):qe X (.builtin "max") (λxs H Q=>∃i j,xs=[.int i,.int j]/\Q (.int (if j>i then j else i)) H):=by
 intro pins s σ H xs us Q I r h;obtain⟨i,j,rfl,q⟩:=h;obtain⟨u,w',rfl,⟨t,rfl⟩,⟨t',rfl⟩⟩:=vals2 r;refine max_two_ints (I.ok.hd hc) λh' tk k=>⟨_,H,I.kept k,?_,q⟩
 by_cases hj:j>i
 ·rw[if_pos hj,if_pos hj];exact⟨_,rfl⟩
 ·rw[if_neg hj,if_neg hj];exact⟨_,rfl⟩
theorem call_min2(hc:X.calm=true):qe X (.builtin "min") (λxs H Q=>∃i j,xs=[.int i,.int j]/\Q (.int (if j<i then j else i)) H):=by
 intro pins s σ H xs us Q I r h;obtain⟨i,j,rfl,q⟩:=h;obtain⟨u,w',rfl,⟨t,rfl⟩,⟨t',rfl⟩⟩:=vals2 r;refine min_two_ints (I.ok.hd hc) λh' tk k=>⟨_,H,I.kept k,?_,q⟩
 by_cases hj:j<i
 ·rw[if_pos hj,if_pos hj];exact⟨_,rfl⟩
 ·rw[if_neg hj,if_neg hj];exact⟨_,rfl⟩
theorem call_int1:qe X (.type "int") (λxs H Q=>(∃i,xs=[.int i]/\Q (.int i) H)\/∃k,xs=[.bl k]/\Q (.int (if k then 1 else 0)) H):=by
 intro pins s σ H xs us Q I r h;rcases h with⟨i,rfl,q⟩|⟨k,rfl,q⟩
 ·obtain⟨u,rfl,t,rfl⟩:=vals1 r;exact call_int_int ⟨.int i,H,I,⟨_,rfl⟩,q⟩
 ·obtain⟨u,rfl,r1⟩:=vals1 r;cases r1;exact call_int_bool ⟨.int (if k then 1 else 0),H,I.tok _,⟨_,rfl⟩,q⟩
end
theorem RelO.some_of{v:V}{o:Option Value}(r:RelO (some v) o):∃u,o=some u/\RelV v u:=by
 cases o with
 |none=>exact(show False from r).elim
 |some u=>exact⟨u,rfl,r⟩
structure Room(k:Nat)(A:Around):Prop where
 hd:A.handled=none
 dp:A.depth+3*k+5<recursionLimit
 un:A.units+16*k+200<cLine
 gd:A.guards=some []
theorem Room.mono{j k:Nat}{A:Around}(r:Room k A)(h:j<=k):Room j A:=⟨r.hd,by have:=r.dp;omega,by have:=r.un;omega,r.gd⟩
theorem Room.deeper{k:Nat}{A:Around}(r:Room (k+1) A)(env:Env):Room k (A.deeper env):=
 ⟨r.hd,by have:=r.dp;show A.depth+1+3*k+5<_;omega,by have:=r.un;show A.units+3+16*k+200<_;omega,r.gd⟩
theorem Room.in1{k:Nat}{A:Around}(r:Room (k+1) A):Room k A.in1:=
 ⟨r.hd,by have:=r.dp;show A.depth+3*k+5<_;omega,by have:=r.un;show A.units+1+16*k+200<_;omega,r.gd⟩
theorem Room.depth{k:Nat}{A:Around}(r:Room k A):A.depth<recursionLimit:=by have:=r.dp;omega
theorem Room.units{k:Nat}{A:Around}(r:Room k A):A.units+64<cLine:=by have:=r.un;omega
noncomputable def qFF:TA:=λ_ H Q=>Q [] H
noncomputable def qE7(ta:TE)(tr:TA):TA:=λσ H Q=>ta σ H λx H1=>tr σ H1 λxs H2=>Q (x::xs) H2
section
variable{X:Cx}{e:Expr}{es:List Expr}{te:TE}{t:TA}{pos:Pos}
theorem pa_nil:PA X [] qFF:=λ_ _ _ _ H Q I h=>Calls.spliced_nil ⟨[],H,I,.nil,h⟩
theorem pa_cons(ha:PE X e te)(hr:PA X es t)(hs:starEach (e::es) X.env=(false,eval e X.env)::starEach es X.env:=by rfl):PA X (e::es) (qE7 te t):=by
 intro pos pins s σ H Q I h;rw[hs];show wpAny _ _ (spliced ((false,eval e X.env)::backTo pos (starEach es X.env))) _ _ s;refine Calls.spliced_cons (thn (ha pins s σ H _ I h) λu s1 ⟨x,H1,I1,r1,q1⟩=>?_);exact thn (hr pos pins s1 σ H1 _ I1 q1) λus s2 ⟨xs,H2,I2,r2,q2⟩=>⟨x::xs,H2,I2,.cons r1 r2,q2⟩
noncomputable def qGZ(t:TA):TE:=λσ H Q=>t σ H λxs H1=>xs.length<=sizeLine/\∀p,H1 p=none->Q (.ref p) (upd H1 p (.tup xs))
noncomputable def qF7(t:TA):TE:=λσ H Q=>t σ H λxs H1=>xs.length<=sizeLine/\∀p,H1 p=none->Q (.ref p) (upd H1 p (.lst xs))
theorem pe_tup {x1}(h:PA X es t):PE X (.Tuple es x1 pos) (qGZ t):=by
 intro pins s σ H Q I hq;refine wpAny_Tuple_spliced (thn (h pos pins s σ H _ I hq) λus s1 ⟨xs,H1,I1,r,z,q⟩=>⟨by rw[<-r.length];exact z,?_⟩);have hf:H1 s1.heap.objs.size=none:=I1.hok.fresh (wF _);refine⟨.ref s1.heap.objs.size,upd H1 s1.heap.objs.size (.tup xs),I1.laid (t':=s1.toks) (λb u e=>Heap.get?_push_of_some _ e) (wF _) ?_,rfl,q _ hf⟩;exact⟨z,us,r,⟨_,Heap.get?_push_size _ rfl,rfl,_,rfl⟩⟩
theorem pe_lst(h:PA X es t):PE X (.List es pos) (qF7 t):=by
 intro pins s σ H Q I hq;refine wpAny_List_spliced (thn (h pos pins s σ H _ I hq) λus s1 ⟨xs,H1,I1,r,z,q⟩=>⟨by rw[<-r.length];exact z,?_⟩);have hf:H1 s1.heap.objs.size=none:=I1.hok.fresh (wF _);refine⟨.ref s1.heap.objs.size,upd H1 s1.heap.objs.size (.lst xs),I1.laid (t':=s1.toks) (λb u e=>Heap.get?_push_of_some _ e) (wF _) ?_,rfl,q _ hf⟩;exact⟨z,us,0,r,Heap.get?_push_size _ rfl⟩
end
noncomputable abbrev Sp:=List V->Hp->VK->XK->Prop
noncomputable abbrev CXT:=List Env->Hp->Shared->XK->Value->Shared->Prop
structure Env0(P:Program)(w:World)(K:PySem.W.Frag)(mg:Str->Option Value)(base:Heap)(A:Around)(outer:List Env)(s:Shared)(H:Hp):Prop where
 frames:A.frames=some outer
 mod:Mod K mg base
 bs:∀b o,base.get? b=some o->s.heap.get? b=some o/\H b=none
 bsz:base.objs.size<=s.heap.objs.size
 funs:s.heap.FunFrames base outer
 frf:∀b∈frs outer,H b=none
 hok:HOk P w H s.heap
 bare:AllBare s.gens
def CE(outer:List Env)(P:Program)(w:World)(H:Hp)(s:Shared)(Q:VK)(u:Value)(s':Shared):Prop:=
 ∃v H',s'.os=s.os/\AllBare s'.gens/\Un (frs outer) [] H H' s.heap s'.heap/\HOk P w H' s'.heap/\RelV v u/\Q v H'
def CR(CX:CXT)(outer:List Env)(P:Program)(w:World)(H:Hp)(s:Shared)(Q:VK)(E:XK)(r:Result)(s':Shared):Prop:=
 match r with
 | .ok (.ret u)=>CE outer P w H s Q u s'
 | .ok _=>False
 | .error e=>CX outer H s E e s'
structure FnOk(P:Program)(w:World)(K:PySem.W.Frag)(mg:Str->Option Value)(base:Heap)(CX:CXT)(k:Nat)(f:Addr)(fd:FuncData)(ps:List Str)(sp:Sp):Prop where
 len:∀vs H Q E,sp vs H Q E->vs.length=ps.length
 run:∀(A:Around) (outer:List Env) (s:Shared) (H:Hp) (args:Args) (us:List Value) (vs:List V) (Q:VK) (E:XK),Room k A->Env0 P w K mg base A outer s H->BindsTo s fd args (ps.zip us)->Vals vs us->sp vs H Q E ->
  codeAny (model P w) A (.call (.ref f) args) (CR CX outer P w H s Q E) s
theorem Env0.in1{P:Program}{w:World}{K:PySem.W.Frag}{mg:Str->Option Value}{base:Heap}{A:Around}{outer:List Env}{s:Shared}{H:Hp}(e:Env0 P w K mg base A outer s H):
  Env0 P w K mg base A.in1 outer s H:=⟨e.frames,e.mod,e.bs,e.bsz,e.funs,e.frf,e.hok,e.bare⟩
section
variable{X:Cx}{pins:List (Addr×Obj)}{σ:St}{H:Hp}{s s':Shared}
theorem Inv.env0(I:Inv X pins σ H s):Env0 X.prog X.w X.K X.mg X.base X.A X.stack s H:=
 ⟨I.ok.frames,I.ok.mod,I.bs,wH I.ok.bsz I.sz,I.stack,I.stkFree,I.hok,I.bare⟩
theorem Inv.after{Q:VK}{u:Value}(I:Inv X pins σ H s)(h:CE X.stack X.prog X.w H s Q u s'):EP X pins σ Q u s':=by
 obtain⟨v,H',os,bare,un,hok,r,q⟩:=h;obtain⟨hh,g,d,t,os'⟩:=s';obtain rfl:os'=s.os:=os;exact⟨v,H',I.call (h':=hh) (g':=g) (d':=d) (t':=t) (ch:=[]) un hok bare (λb z=>absurd z (by simp)),r,q⟩
end
noncomputable def tCall(sp:Sp)(dvs:List V)(E:XK)(t:TA):TE:=λσ H Q=>t σ H λvs H1=>sp (vs++dvs) H1 Q E
def Binds(K:PySem.W.Frag)(fd:FuncData)(ps:List Str)(ds:List Value):Prop:=
 ∀(s:Shared) (us:List Value),K.In s.heap->(us++ds).length=ps.length->BindsTo s fd ⟨us,[]⟩ (ps.zip (us++ds))
theorem Binds.all{K:PySem.W.Frag}{fd:FuncData}{ps:List Str}(h:∀us:List Value,us.length=ps.length->bindArgs fd ⟨us,[]⟩=pure (ps.zip us)):Binds K fd ps []:=λs us _ hl=>by
 rw[wX]at hl ⊢;exact .of_eq (h us hl)
def J8(CX:CXT)(X:Cx)(E:XK):Prop:=∀(pins:List (Addr×Obj)) (σ:St) (H:Hp) (s:Shared) (e:Value) (s':Shared),Inv X pins σ H s->CX X.stack H s E e s'->X.xe e s'
section
variable{X:Cx}{CX:CXT}{k:Nat}{f C:Addr}{fd:FuncData}{ps:List Str}{sp:Sp}{dvs:List V}{ds:List Value}{E:XK}{x m:Str}{p pos apos:Pos}{e o:Expr}{es:List Expr}{ta:TE}{t:TA}
theorem qAR{pins:List (Addr×Obj)}{σ:St}{H:Hp}{s:Shared}{Q:VK}{us:List Value}{vs:List V}(F:FnOk X.prog X.w X.K X.mg X.base CX k f fd ps sp)(hr:Room k X.A)(hb:Binds X.K fd ps ds)(hd:Vals dvs ds)(hx:J8 CX X E)
  (I:Inv X pins σ H s) (r:Vals vs us) (h:sp (vs++dvs) H Q E):wpAny (model X.prog X.w) X.A (call (.ref f) us) (EP X pins σ Q) X.xe s:=by
 have r2:Vals (vs++dvs) (us++ds):=r.append hd;have hl:(us++ds).length=ps.length:=by rw[<-r2.length];exact F.len _ _ _ _ h
 refine wpAny_call (codeAny_mono (F.run X.A X.stack s H ⟨us,[]⟩ (us++ds) (vs++dvs) Q E hr I.env0 (hb s us I.kIn hl) r2 h) λr s' hq=>?_);cases r with
 |error e=>exact hx pins σ H s e s' I hq
 |ok fl=>
  cases fl with
  |ret u=>exact I.after hq
  |next=>exact False.elim hq
  |brk=>exact False.elim hq
  |cont=>exact False.elim hq
theorem pe_call(F:FnOk X.prog X.w X.K X.mg X.base CX k f fd ps sp)(hr:Room k X.A)(hg:Gl X x)(hm:X.mg x=some (.ref f))(hk:PySem.W.keepIn X.K (.ref f)=true)(hb:Binds X.K fd ps ds)(hd:Vals dvs ds)(hx:J8 CX X E)
  (ha:PA X (e::es) t) (hdb:(x==("__debug__":Str))=false:=by decide) (he:starEach (e::es) X.env=(false,eval e X.env)::starEach es X.env:=by rfl) (hpl:(backTo pos (starEach es X.env)).any (·.1)=false:=by rfl):
  PE X (.Call (.Name x p) (e::es) [] pos) (tCall sp dvs E t):=by
 intro pins s σ H Q I h;refine wpAny_Call_Name_kw (B9 I hg hm ?_ hdb);refine PySem.W.callWith_K (h₀:=X.base) I.ok.mod.kin hk (thn (ha pos pins s σ H _ I h) λus s1 ⟨vs,H1,I1,r,q⟩=>⟨I1.kIn,?_⟩) he hpl;exact qAR F hr hb hd hx I1 r q
theorem pe_call0(F:FnOk X.prog X.w X.K X.mg X.base CX k f fd ps sp)(hr:Room k X.A)(hg:Gl X x)(hm:X.mg x=some (.ref f))(hk:PySem.W.keepIn X.K (.ref f)=true)(hb:Binds X.K fd ps ds)(hd:Vals dvs ds)(hx:J8 CX X E)
  (hdb:(x==("__debug__":Str))=false:=by decide):PE X (.Call (.Name x p) [] [] pos) (tCall sp dvs E qFF):=by
 intro pins s σ H Q I h;refine wpAny_Call_Name_kw (B9 I hg hm ?_ hdb);exact PySem.W.callWith_K0 I.kIn hk (qAR (us:=[]) F hr hb hd hx I .nil h)
end
structure zK(N P:List Str)(sc:Scope):Prop where
 kind:sc.kind=.function
 co:sc.isCoroutine=false
 gen:sc.isGenerator=false
 nd:N.Nodup
 pre:N.take P.length=P
 par:∀x∈P,sc.names.lookup x=some .local\/sc.names.lookup x=some .cell
 nofree:∀y∈sc.names,y.2≠.free
theorem A4{kindOf:Str->Option NameKind}{x:Str}:∀{binds:List (Str×Value)}{m:Str->Option Value},(∀v,(x,v)∉binds)->bindL kindOf binds m x=m x
 | [],_,_=>rfl
 | (n,v)::r,m,h=>by
  unfold bindL;rw[A4 λw hw=>h w (wI _ hw)];split
  ·have:x≠n:=by rintro rfl;exact h v wN
   simp[this]
  ·rfl
theorem A5{kindOf:Str->Option NameKind}{x:Str}:∀{binds:List (Str×Value)}{m:Str->Option Value},(∀v,(x,v)∉binds)->bindC kindOf binds m x=m x
 | [],_,_=>rfl
 | (n,v)::r,m,h=>by
  unfold bindC;rw[A5 λw hw=>h w (wI _ hw)];split
  ·rfl
  ·have:x≠n:=by rintro rfl;exact h v wN
   simp[this]
theorem Jm{kindOf:Str->Option NameKind}{x:Str}{v:Value}:∀{P:List Str}{vs:List Value}{i:Nat}{m:Str->Option Value},P.Nodup->P[i]?=some x->vs[i]?=some v->kindOf x=some .local ->
  bindL kindOf (P.zip vs) m x=some v
 | [],_,_,_,_,h,_,_=>by simp at h
 |_::_,[],_,_,_,_,h,_=>by simp at h
 |p::P,w::vs,0,m,nd,h1,h2,hk=>by
  simp at h1 h2;subst h1;subst h2;show bindL kindOf ((p,w)::P.zip vs) m p=_;unfold bindL;rw[A4 λv hv=>(vR.mp nd).1 (vz hv).1,if_pos hk];simp
 |p::P,w::vs,i+1,m,nd,h1,h2,hk=>by
  show bindL kindOf ((p,w)::P.zip vs) m x=_;unfold bindL;exact Jm (i:=i) (vR.mp nd).2 (by simpa using h1) (by simpa using h2) hk
theorem Jf{kindOf:Str->Option NameKind}{x:Str}{v:Value}:∀{P:List Str}{vs:List Value}{i:Nat}{m:Str->Option Value},P.Nodup->P[i]?=some x->vs[i]?=some v->kindOf x≠some .local ->
  bindC kindOf (P.zip vs) m x=some v
 | [],_,_,_,_,h,_,_=>by simp at h
 |_::_,[],_,_,_,_,h,_=>by simp at h
 |p::P,w::vs,0,m,nd,h1,h2,hk=>by
  simp at h1 h2;subst h1;subst h2;show bindC kindOf ((p,w)::P.zip vs) m p=_;unfold bindC;rw[A5 λv hv=>(vR.mp nd).1 (vz hv).1,if_neg hk];simp
 |p::P,w::vs,i+1,m,nd,h1,h2,hk=>by
  show bindC kindOf ((p,w)::P.zip vs) m x=_;unfold bindC;exact Jf (i:=i) (vR.mp nd).2 (by simpa using h1) (by simpa using h2) hk
noncomputable def start(N:List Str)(vs:List V):St:=vs.map some++List.replicate (N.length-vs.length) none
noncomputable def cxOf(CX:CXT)(P:Program)(w:World)(K:PySem.W.Frag)(mg:Str->Option Value)(base:Heap)(N:List Str)(qual:Str)(scope:Scope)(f:Addr)(cd:Value)(A:Around)(outer:List Env)(s:Shared)(H:Hp)(E:XK):Cx where
 prog:=P
 w:=w
 K:=K
 mg:=mg
 base:=base
 A:=A.deeper (envOfC qual scope s.heap.objs.size f cd)
 N:=N
 s₀:=s
 H₀:=H
 env:=envOfC qual scope s.heap.objs.size f cd
 outer:=outer
 stack:=envOfC qual scope s.heap.objs.size f cd::outer
 ex:=[]
 calm:=true
 fn:=λ_=>true
 pn:=[]
 xe:=λe s'=>wpAny (model P w) (A.deeper (envOfC qual scope s.heap.objs.size f cd)) (leaving (envOfC qual scope s.heap.objs.size f cd) e) (λ_ s''=>CX outer H s E e s'') (λe' s''=>CX outer H s E e' s'') s'
theorem K2{sc:Scope}{n:Nat}{x:Str}(h:sc.names.lookup x=some .cell):∃c,(cellsFrom n sc.names []).lookup x=some c:=by
 have q:=PySem.W.cellsFrom_some sc.names n [] (.inl h);exact Option.isSome_iff_exists.mp q
theorem T6{CX:CXT}{P:Program}{w:World}{K:PySem.W.Frag}{mg:Str->Option Value}{base:Heap}{N ps:List Str}{qual:Str}{scope:Scope}{f:Addr}{cd:Value}{A:Around}{outer:List Env}{s s1:Shared}{H:Hp}{E:XK}{us:List Value}{vs:List V}
  (S:zK N ps scope) (hd:A.handled=none) (e0:Env0 P w K mg base A outer s H) (hl:vs.length=ps.length) (r:Vals vs us)
  (x:InCallC s s.heap.objs.size (bindL (envOfC qual scope s.heap.objs.size f cd).kindOf (ps.zip us) λ_=>none) (cellsFrom (s.heap.objs.size+1) scope.names []) (bindC (envOfC qual scope s.heap.objs.size f cd).kindOf (ps.zip us) λ_=>none) s1):
  Inv (cxOf CX P w K mg base N qual scope f cd A outer s H E) [] (start N vs) H s1:=by
 have hpl:ps.length<=N.length:=by have:=congrArg List.length S.pre;rw[vI]at this;omega
 obtain⟨h1,tk,rfl,hk⟩:=x.done;have noA:∀b:Addr,b∉(cxOf CX P w K mg base N qual scope f cd A outer s H E).ex:=λb z=>absurd (show b∈([]:List Addr) from z) (by simp);refine⟨⟨e0.mod,S.kind,rfl,rfl,wF _,λy z c h1 h2=>?_,λy hy=>?_,λy c _ h=>?_,λ_=>hd,Around.frames_deeper e0.frames,.inr ⟨rfl,rfl⟩,λb z=>absurd z (noA b),e0.bs,e0.bsz,λb _ _=>noA b,λb z=>absurd z (noA b),e0.funs,e0.frf⟩,
  rfl,e0.bare,Un.kept hk,⟨_,x.toInCall.ns,λi y v h1 h2 h3=>?_⟩,λy c h=>⟨_,x.cell y c h⟩,e0.hok.fresh (wF _),λy c h=>?_,λp hp=>absurd (show p∈([]:List (Addr×Obj)) from hp) (by simp),e0.hok.kept hk,?_⟩
 ·exact name_of_addr x.apart (PySem.mem_of_lookup h1) (PySem.mem_of_lookup h2)
 ·have hy:scope.names.lookup y=some .cell\/scope.names.lookup y=some .free:=hy;rcases hy with hy|hy
  ·exact K2 hy
  ·exact absurd rfl (S.nofree _ (PySem.mem_of_lookup hy))
 ·exact wv (x.above y c (PySem.mem_of_lookup h))
 ·have hi:i<vs.length:=by
   unfold start at h2;by_cases hi:i<vs.length
   ·exact hi
   ·rw[wR (by simpa using hi)]at h2;rw[List.getElem?_replicate]at h2;split at h2<;>cases h2
  have ha:vs[i]?=some v:=by
   unfold start at h2;rw[wC (by simpa using hi),wl]at h2;cases e:vs[i]? with
   |none=>rw[e]at h2;cases h2
   |some a=>rw[e]at h2;cases h2;rfl
  obtain⟨u,hu,rv⟩:=r.get ha;have hp:ps[i]?=some y:=by
   rw[<-S.pre,wu (by omega)];exact h1
  have ndP:ps.Nodup:=by rw[<-S.pre];exact S.nd.sublist (List.take_sublist _ _)
  refine⟨u,rv,?_⟩;rcases S.par y (wS hp) with k|k
  ·exact .inl ⟨k,Jm ndP hp hu k⟩
  ·obtain⟨c,e⟩:=K2 (n:=s.heap.objs.size+1) k;refine .inr ⟨.inl k,c,e,?_⟩;have q:=x.cell y c e;rw[Jf ndP hp hu (by show scope.names.lookup y≠_;rw[k];decide)]at q;exact q
 ·exact e0.hok.fresh (wv (x.above y c (PySem.mem_of_lookup h)))
 ·unfold start;show _=N.length;rw[wW,wO,List.length_replicate];omega
theorem qE0{CX:CXT}{P:Program}{w:World}{K:PySem.W.Frag}{mg:Str->Option Value}{base:Heap}{k:Nat}{f:Addr}{name qual:Str}{params:Arguments}{body:List Stmt}{scope:Scope}{dV kV doc pm cdv ct oc:Value}{an od:Option Addr}
  {osl:Array (Option Value)}{N ps:List Str}{sp:Sp}(lk:K.lookup f=some ⟨oc,od,.func (PySem.W.fnOf name qual params body scope dV kV doc pm an cdv ct),osl⟩) (hcd:PySem.W.codeIn K cdv qual=true) (S:zK N ps scope)
  (len:∀vs H Q E,sp vs H Q E->vs.length=ps.length)
  (hbody:∀(A:Around) (outer:List Env) (s:Shared) (H:Hp) (vs:List V) (Q:VK) (E:XK),Room k (A.deeper (envOfC qual scope s.heap.objs.size f cdv))->sp vs H Q E ->
   ∃t,PSs (cxOf CX P w K mg base N qual scope f cdv A outer s H E) body t/\t { nx:=λ_ H'=>Q .non H',rt:=Q } (start N vs) H):
  FnOk P w K mg base CX (k+1) f (PySem.W.fnOf name qual params body scope dV kV doc pm an cdv ct) ps sp:=by
 refine⟨len,λA outer s H args us vs Q E hr e0 hb r hsp=>?_⟩;have hl:=len _ _ _ _ hsp;have KX:K.In s.heap:=e0.mod.kin.keeps λb o e=>(e0.bs b o e).1;have lim:s.heap.NoLimit:=e0.mod.nolimit.keeps λb o e=>(e0.bs b o e).1;have hkind:∀y∈ps.zip us,scope.names.lookup y.1=some .local\/(scope.names.lookup y.1=some .cell/\((cellsFrom (s.heap.objs.size+1) scope.names []).lookup y.1).isSome=true):=λ⟨n,v⟩ hy=>by
  rcases S.par n (vz hy).1 with q|q
  ·exact .inl q
  ·exact .inr ⟨q,PySem.W.cellsFrom_some _ _ _ (.inl q)⟩
 refine codeAny_call_function hr.depth (KX _ _ lk) rfl S.co S.gen rfl (PySem.W.codeRec_of KX hcd) (hb _ _ _ _ ?_);refine wpAny_newFunctionEnv_cells S.kind hkind λenv he s1 x=>?_;subst he;refine⟨lim.keeps x.toInCall.keep,codeAny_func ?_⟩;obtain⟨t,ht,hq⟩:=hbody A outer s H vs Q E (hr.deeper _) hsp;have I:Inv (cxOf CX P w K mg base N qual scope f cdv A outer s H E) [] (start N vs) H s1:=T6 S hr.hd e0 hl r x;refine wpAny_mono (ht [] s1 (start N vs) H _ I hq) (λfl s' hs=>?_) λe s' hs=>hs;have fin:∀{σ':St}{H':Hp}{v:V}{u:Value},Inv (cxOf CX P w K mg base N qual scope f cdv A outer s H E) [] σ' H' s'->RelV v u->Q v H'->CE outer P w H s Q u s':=
  λ{σ' H' v u} J rv q=>⟨v,H',J.os,J.bare,J.base,J.hok,rv,q⟩
 cases fl with
 |ret u=>
  obtain⟨v,σ',H',J,rv,q⟩:=hs;exact fin J rv q
 |next=>
  obtain⟨σ',H',J,q⟩:=hs;exact fin (v:=V.non) (u:=Value.none) J rfl q
 |brk=>
  obtain⟨_,_,_,q⟩:=hs;exact False.elim q
 |cont=>
  obtain⟨_,_,_,q⟩:=hs;exact False.elim q
section
variable{X:Cx}{x:Str}{p pos:Pos}{e:Expr}{es:List Expr}{t:TA}{id T:String}{r:List V->Hp->VK->Prop}
noncomputable def tCB(r:List V->Hp->VK->Prop)(t:TA):TE:=λσ H Q=>t σ H λvs H1=>r vs H1 Q
theorem pe_callB(hc:qe X (.builtin id) r)(hg:Gl X x)(hm:X.mg x=none)(hv:bootBuiltins x=some (.builtin id))(ha:PA X (e::es) t)(hn:x≠"__name__":=by decide)(hdb:(x==("__debug__":Str))=false:=by decide)
  (he:starEach (e::es) X.env=(false,eval e X.env)::starEach es X.env:=by rfl) (hpl:(backTo pos (starEach es X.env)).any (·.1)=false:=by rfl):PE X (.Call (.Name x p) (e::es) [] pos) (tCB r t):=by
 intro pins s σ H Q I h;refine wpAny_Call_Name_kw (ld_blt I hg hm hv ?_ hn hdb);exact PyProof.Rows.callWith_builtin1 (thn (ha pos pins s σ H _ I h) λus s1 ⟨vs,H1,I1,r1,q1⟩=>hc pins s1 σ H1 vs us Q I1 r1 q1) he hpl
theorem pe_callTy(hc:qe X (.type T) r)(hg:Gl X x)(hm:X.mg x=none)(hv:bootBuiltins x=some (.type T))(ha:PA X (e::es) t)(hn:x≠"__name__":=by decide)(hdb:(x==("__debug__":Str))=false:=by decide)
  (he:starEach (e::es) X.env=(false,eval e X.env)::starEach es X.env:=by rfl) (hpl:(backTo pos (starEach es X.env)).any (·.1)=false:=by rfl):PE X (.Call (.Name x p) (e::es) [] pos) (tCB r t):=by
 intro pins s σ H Q I h;refine wpAny_Call_Name_kw (ld_blt I hg hm hv ?_ hn hdb);exact PyProof.Rows.callWith_type1 (thn (ha pos pins s σ H _ I h) λus s1 ⟨vs,H1,I1,r1,q1⟩=>hc pins s1 σ H1 vs us Q I1 r1 q1) he hpl
end
end _L
namespace _H
open PySem PyProof.Rows
section
variable{prog:Program}{w:World}{A:Around}{E:Value->Shared->Prop}{s:Shared}
theorem cat_tup{t b:Addr}{vs ws:List Value}{Q:Value->Shared->Prop}(ht:IsTup s.heap t vs.toArray)(hb:IsTup s.heap b ws.toArray)(hv:vs≠[])
  (h1:ws=[]->Q (.ref t) s) (h2:ws≠[]->Q (.ref s.heap.objs.size) { s with heap:=s.heap.push { cls:=.type "tuple",data:=.seq (vs++ws).toArray } })
  (hsz:vs.length+ws.length<=sizeLine):wpAny (model prog w) A (binaryOp .Add (.ref t) (.ref b)) Q E s:=by
 obtain⟨⟨cls,dd,data,sl⟩,ho,hc,n,hd⟩:=id ht;obtain⟨⟨cls2,dd2,data2,sl2⟩,ho2,hc2,n2,hd2⟩:=id hb;simp only at hc hd hc2 hd2;subst hc hd hc2 hd2;have e:vs.toArray++ws.toArray=(vs++ws).toArray:=by simp
 by_cases hw:ws=[]
 ·exact concat_meets ⟨_,ho,rfl⟩ ⟨_,ho2,rfl⟩ noFill_tuple_add seq_tuple_add PySem.F.slot_tuple_add PySem.F.entry_tuple_add (PySem.F.args_tuple_add_2 _ _)
   (tuple_addW1 t b vs.toArray ws.toArray n n2 dd dd2 sl sl2 (by simpa using hv) (by simp[hw])) ⟨ho,ho2,h1 hw⟩
 ·refine concat_meets ⟨_,ho,rfl⟩ ⟨_,ho2,rfl⟩ noFill_tuple_add seq_tuple_add PySem.F.slot_tuple_add PySem.F.entry_tuple_add (PySem.F.args_tuple_add_2 _ _)
   (tuple_addW2 t b vs.toArray ws.toArray n n2 dd dd2 sl sl2 (by simpa using hv) (by simpa using hw) (by rw[wM,wM];exact hsz)) ⟨ho,ho2,?_⟩
  rw[e];exact h2 hw
noncomputable def sIx(n d:Nat):Option Int->Nat
 |none=>d
 |some v=>if v<0 then (v+(n:Int)).toNat else min v.toNat n
theorem sIx_nat(n d k:Nat):sIx n d (some (k:Int))=min k n:=by
 show (if (k:Int)<0 then ((k:Int)+(n:Int)).toNat else min (k:Int).toNat n)=min k n;rw[if_neg (by omega),vC]
theorem qCQ(n d:Nat)(hd:d<=n)(o:Option Int):sIx n d o<=n:=by
 cases o with
 |none=>exact hd
 |some v=>
  show (if v<0 then (v+(n:Int)).toNat else min v.toNat n)<=n;by_cases hv:v<0
  ·rw[if_pos hv];omega
  ·rw[if_neg hv];exact Nat.min_le_right _ _
theorem T7(v:Int)(n d:Nat):(if v<0 then max (v+(n:Int)) 0 else min v (n:Int))=((sIx n d (some v):Nat):Int):=by
 show (if v<0 then max (v+(n:Int)) 0 else min v (n:Int))=(((if v<0 then (v+(n:Int)).toNat else min v.toNat n):Nat):Int);by_cases hv:v<0
 ·simp only[if_pos hv];omega
 ·simp only[if_neg hv];omega
theorem O3(lo hi:Option Int)(n:Nat):Builtin.Slice.sliceAdjust lo hi 1 (n:Int)=(((sIx n 0 lo:Nat):Int),((sIx n n hi:Nat):Int)):=by
 have h1:¬ ((1:Int)<0):=by omega
 unfold Builtin.Slice.sliceAdjust;simp only[h1,if_false];refine Prod.ext ?_ ?_
 ·cases lo with
  |none=>rfl
  |some v=>exact T7 v n 0
 ·cases hi with
  |none=>rfl
  |some v=>exact T7 v n n
theorem O5(i j:Nat):Builtin.Slice.slicePlaces (i:Int) (j:Int) 1=j-i:=by
 unfold Builtin.Slice.slicePlaces;have h1:(1:Int)>0:=by omega
 simp only[h1,if_true,Int.ediv_one];split<;>omega
theorem ZZ{v:Value}{o:Option Int}{Q:Option Int->Shared->Prop}(p:IsPart v o)(h:Q o s):wpAny (model prog w) A (Builtin.Slice.slicePartIndex v) Q E s:=by
 cases p with
 |none=>exact slicePart_none h
 |int i t=>exact slicePart_int h
theorem QQ{sl:Addr}{vl vu:Value}{lo hi:Option Int}{n:Nat}{Q:Int×Int×Nat->Shared->Prop}(hs:s.heap.IsSliceOf sl vl vu .none)(pl:IsPart vl lo)(pu:IsPart vu hi)
  (h:Q (((sIx n 0 lo:Nat):Int),1,sIx n n hi-sIx n 0 lo) s):wpAny (model prog w) A (Builtin.Slice.sliceApplied (.ref sl) (pure (n:Int))) Q E s:=by
 obtain⟨os,hos,hcs,hds⟩:=id hs;unfold Builtin.Slice.sliceApplied Builtin.Slice.sliceFields;refine uD (uD (wpAny_field hos hds (x:=vl) rfl (uD (wpAny_field hos hds (x:=vu) rfl (uD (wpAny_field hos hds (x:=.none) rfl (uE ?_)))))));refine uD (slicePart_none ?_);show wpAny _ _ (if ((1:Int)==0)=true then _ else _) _ _ s;rw[if_neg (by decide)];refine uD (ZZ pl (uD (ZZ pu (uD (uE ?_)))));show wpAny _ _ (match Builtin.Slice.sliceAdjust lo hi 1 (n:Int) with|(lo,hi)=>pure (lo,(1:Int),Builtin.Slice.slicePlaces lo hi 1)) _ _ s;rw[O3 lo hi n];show wpAny _ _ (pure (((sIx n 0 lo:Nat):Int),(1:Int),Builtin.Slice.slicePlaces ((sIx n 0 lo:Nat):Int) ((sIx n n hi:Nat):Int) 1)) _ _ s;rw[O5];exact uE h
theorem u5(xs:Array Value)(i k:Nat):((List.range k).filterMap λ(m:Nat)=>xs[((i:Int)+(m:Int)*1).toNat]?).toArray=((xs.toList.drop i).take k).toArray:=by
 have e:(λ(m:Nat)=>xs[((i:Int)+(m:Int)*1).toNat]?)=λm=>xs[i+m]?:=by
  funext m
  have:((i:Int)+(m:Int)*1).toNat=i+m:=by omega
  rw[this]
 rw[e];have:=pick_run xs i k;rw[List.filterMap_map]at this;have e2:((λx=>xs[x]?)∘λx=>i+x)=λm=>xs[i+m]?:=rfl;rw[e2]at this;rw[this]
theorem getItem_tuple_cut{t sl:Addr}{items:Array Value}{vl vu:Value}{lo hi:Option Int}{Q:Value->Shared->Prop}(ht:IsTup s.heap t items)(hs:s.heap.IsSliceOf sl vl vu .none)(pl:IsPart vl lo)(pu:IsPart vu hi)
  (hw:¬ (sIx items.size 0 lo=0/\sIx items.size items.size hi=items.size))
  (h:Q (.ref s.heap.objs.size) { s with heap:=s.heap.push { cls:=.type "tuple",data:=.seq ((items.toList.drop (sIx items.size 0 lo)).take (sIx items.size items.size hi-sIx items.size 0 lo)).toArray } })
  (hsz:items.size<=sizeLine):wpAny (model prog w) A (getItem (.ref t) (.ref sl)) Q E s:=by
 have htake:sizeOk (.seq ((items.toList.drop (sIx items.size 0 lo)).take (sIx items.size items.size hi-sIx items.size 0 lo)).toArray):=by
  show ((items.toList.drop (sIx items.size 0 lo)).take (sIx items.size items.size hi-sIx items.size 0 lo)).toArray.size<=sizeLine;rw[wM,vI,vJ,wa];omega
 have hj:sIx items.size items.size hi<=items.size:=qCQ _ _ (wF _) hi;obtain⟨os,hos,hcs,hds⟩:=id hs;have hTs:s.TypeIs (.ref sl) "slice":=⟨os,hos,hcs⟩
 unfold getItem
 try with_reducible refine wpAny_holding ?_
 first|refine uD (uE ?_)|skip
 refine uD (wpAny_sequenceKey ht.typeIs (by decide) ?_);refine uD (wpAny_callSpecial?_slot (name:=Str.ofString "__getitem__") ht.typeIs PyProof.Rows.slot_tuple_getitem
  (wpAny_call_entry PyProof.Rows.slot_tuple_getitem ht.typeIs entry_tuple_getitem ?_ (args_tuple_getitem _ _)))
 show wpAny _ _ (Builtin.Tuple.tupleItemsOf (.ref t) >>=_) _ _ s;refine uD (tupleItemsOf_ ht ?_);refine uD (wpAny_typeOf hTs ?_);rw[if_pos (by decide)];refine uD (QQ hs pl pu ?_);have hno:¬ ((((sIx items.size 0 lo:Nat):Int)==0&&(1:Int)==1&&(sIx items.size items.size hi-sIx items.size 0 lo)==items.size)=true):=by
  intro q;rw[wE,wE]at q;have q1:((sIx items.size 0 lo:Nat):Int)=0:=eq_of_beq q.1.1;have q2:sIx items.size items.size hi-sIx items.size 0 lo=items.size:=eq_of_beq q.2;exact hw ⟨by omega,by omega⟩
 show wpAny _ _ (if (((sIx items.size 0 lo:Nat):Int)==0&&(1:Int)==1&&(sIx items.size items.size hi-sIx items.size 0 lo)==items.size)=true then _ else _) _ _ s;rw[if_neg hno,u5]
 first
  |exact uD (m:=Builtin.Tuple.tupleExact _) (wpAny_newObj_type (uE ⟨_,rfl,uE h⟩) htake)
  |exact uD (m:=Builtin.Tuple.tupleExact _) (wpAny_newObj_type (uD (uE (uE ⟨_,rfl,uE h⟩))) htake)
  |exact uD (uD (m:=Builtin.Tuple.tupleExact _) (wpAny_newObj_type (uE (uE ⟨_,rfl,uE h⟩)) htake))
  |exact uD (uD (m:=Builtin.Tuple.tupleExact _) (wpAny_newObj_type (uE ⟨_,rfl,uE h⟩) htake))
end
end _H
namespace _L
open PySem PySem.Spec PyProof.Rows
noncomputable abbrev TO:=St->Hp->(Option Int->Hp->Prop)->Prop
def PO(X:Cx)(e:Option Expr)(t:TO):Prop:=
 ∀(pins:List (Addr×Obj)) (s:Shared) (σ:St) (H:Hp) (Q:Option Int->Hp->Prop),Inv X pins σ H s->t σ H Q ->
  wpAny (model X.prog X.w) X.A (evalPart e X.env) (λu s'=>∃o H',Inv X pins σ H' s'/\IsPart u o/\Q o H') X.xe s
noncomputable def qBN:TO:=λ_ H Q=>Q none H
noncomputable def qEH(t:TE):TO:=λσ H Q=>t σ H λx H1=>∃i,x=.int i/\Q (some i) H1
theorem intsAre_of{ns:List Int}:∀{us:List Value},Vals (ns.map V.int) us->IntsAre us ns:=by
 induction ns with
 |nil=>intro us r;rw[List.map_nil]at r;cases r;exact .nil
 |cons n ns ih=>
  intro us r;rw[List.map_cons]at r;cases r with
  |cons r1 r2=>
   obtain⟨t,e⟩:=r1;subst e;exact .cons n t (ih r2)
section
variable{X:Cx}{e:Expr}{te:TE}{lo hi:Option Expr}{tl th:TO}{pos p2:Pos}
theorem po_none:PO X none qBN:=by
 intro pins s σ H Q I h;rw[evalPart_none];exact uE ⟨none,H,I,.none,h⟩
theorem po_some(h:PE X e te):PO X (some e) (qEH te):=by
 intro pins s σ H Q I hw;rw[evalPart_some];refine thn (h pins s σ H _ I hw) λu s1 ⟨x,H1,I1,r1,q1⟩=>?_;obtain⟨i,rfl,q⟩:=q1;obtain⟨t,rfl⟩:=r1;exact⟨some i,H1,I1,.int i t,q⟩
def SlR(X:Cx)(r:V->Option Int->Option Int->Hp->VK->Prop):Prop:=
 ∀(pins:List (Addr×Obj)) (s:Shared) (σ:St) (H:Hp) (x:V) (v vl vu:Value) (lo hi:Option Int) (sl:Addr) (Q:VK),Inv X pins σ H s->RelV x v->s.heap.IsSliceOf sl vl vu .none->IsPart vl lo->IsPart vu hi->r x lo hi H Q ->
  ∃T id,typeLookup (.type T) "__getitem__"=pure (some (.builtin id))/\s.TypeIs v T/\wpAny (model X.prog X.w) X.A (getItem v (.ref sl)) (EP X pins σ Q) X.xe s
theorem SlR.or{r r':V->Option Int->Option Int->Hp->VK->Prop}(h:SlR X r)(h':SlR X r'):SlR X (λx lo hi H Q=>r x lo hi H Q\/r' x lo hi H Q):=by
 intro pins s σ H x v vl vu lo hi sl Q I rx hs pl pu q;rcases q with q|q
 ·exact h pins s σ H x v vl vu lo hi sl Q I rx hs pl pu q
 ·exact h' pins s σ H x v vl vu lo hi sl Q I rx hs pl pu q
noncomputable def tSl(r:V->Option Int->Option Int->Hp->VK->Prop)(te:TE)(tl th:TO):TE:=λσ H Q=>te σ H λx H1=>tl σ H1 λl H2=>th σ H2 λu H3=>r x l u H3 Q
theorem pe_slice{r:V->Option Int->Option Int->Hp->VK->Prop}(hr:SlR X r)(he:PE X e te)(hl:PO X lo tl)(hu:PO X hi th):PE X (.Subscript e (.Slice lo hi none p2) pos) (tSl r te tl th):=by
 intro pins s σ H Q I h;refine Subscript_ (thn (he pins s σ H _ I h) λv s1 ⟨x,H1,I1,r1,q1⟩=>?_);refine wpAny_Slice (thn (hl pins s1 σ H1 _ I1 q1) λvl s2 ⟨l,H2,I2,pl,q2⟩=>thn (hu pins s2 σ H2 _ I2 q2) λvu s3 ⟨u,H3,I3,pu,q3⟩=>?_);rw[evalPart_none];refine uE ?_;have I4:Inv X pins σ H3 { s3 with heap:=s3.heap.push { cls:=.type "slice",data:=.fields #[vl,vu,.none] } }:=I3.kept (t':=s3.toks) λb ob q=>Heap.get?_push_of_some _ q;obtain⟨T,id,hT,ht,hg⟩:=hr pins { s3 with heap:=s3.heap.push { cls:=.type "slice",data:=.fields #[vl,vu,.none] } } σ H3 x v vl vu l u s3.heap.objs.size Q I4 r1 (Heap.IsSliceOf.new ..) pl pu q3;show wpAny (model X.prog X.w) X.A (subscriptTail e (.Slice lo hi none p2) v (.ref s3.heap.objs.size)) (EP X pins σ Q) X.xe { s3 with heap:=s3.heap.push { cls:=.type "slice",data:=.fields #[vl,vu,.none] } };exact tail_any (ops:=[.ref s3.heap.objs.size,v]) ht hT hg (by with_unfolding_all rfl)
noncomputable def cutV(xs:List V)(lo hi:Option Int):List V:=(xs.drop (_H.sIx xs.length 0 lo)).take (_H.sIx xs.length xs.length hi-_H.sIx xs.length 0 lo)
theorem ZG(xs:List V)(lo hi:Option Int):(cutV xs lo hi).length<=xs.length:=by
 unfold cutV;rw[vI,vJ];omega
def qGJ(K:PySem.W.Frag):V->Option Int->Option Int->Hp->VK->Prop:=λx lo hi H Q=>∃a xs,x=.ref a/\SqT K H a xs/\
 ¬ (_H.sIx xs.length 0 lo=0/\_H.sIx xs.length xs.length hi=xs.length)/\∀p,H p=none->Q (.ref p) (upd H p (.tup (cutV xs lo hi)))
theorem sl_tup:SlR X (qGJ X.K):=by
 intro pins s σ H x v vl vu lo hi sl Q I rx hs pl pu h;obtain⟨a,xs,rfl,hx,hw,q⟩:=h;cases rx;obtain⟨its,r,ht,hz⟩:=I.tuple hx;have hlen:its.toArray.size=xs.length:=by rw[wM];exact r.length.symm
 refine⟨"tuple",_,PyProof.Rows.slot_tuple_getitem.lookup,ht.typeIs,?_⟩;refine _H.getItem_tuple_cut ht hs pl pu (by rw[hlen];exact hw) ?_ (by rw[hlen];exact hz);rw[hlen];refine⟨.ref s.heap.objs.size,_,I.laid (t':=s.toks) (o:=.tup (cutV xs lo hi)) (λb ob q=>Heap.get?_push_of_some _ q) (wF _) ?_,rfl,q _ (I.hok.fresh (wF _))⟩;exact⟨wH (ZG xs lo hi) hz,_,(r.drop (_H.sIx xs.length 0 lo)).take (_H.sIx xs.length xs.length hi-_H.sIx xs.length 0 lo),IsTup.new _ _⟩
noncomputable def rCatT(K:PySem.W.Frag):R2:=λx y H Q=>∃a b xs ys,x=.ref a/\y=.ref b/\SqT K H a xs/\SqT K H b ys/\xs≠[]/\xs.length+ys.length<=sizeLine/\
 (ys=[]->Q (.ref a) H)/\(ys≠[]->∀p,H p=none->Q (.ref p) (upd H p (.tup (xs++ys))))
theorem Vals.nil_iff{xs:List V}{us:List Value}(r:Vals xs us):us=[]↔xs=[]:=by
 cases r with
 |nil=>simp
 |cons _ _=>simp
theorem op_catT:OpR X (binaryOp .Add) (rCatT X.K):=by
 intro pins s σ H x y v u Q I rx ry h;obtain⟨a,b,xs,ys,rfl,rfl,ha,hb,hx,hz,q1,q2⟩:=h;cases rx;cases ry;obtain⟨its,r1,p1,_⟩:=I.tuple ha;obtain⟨its2,r2,p2,_⟩:=I.tuple hb;refine _H.cat_tup p1 p2 (λz=>hx (r1.nil_iff.mp z)) (λz=>⟨.ref a,H,I,rfl,q1 (r2.nil_iff.mp z)⟩) (λz=>?_) (by rw[<-r1.length,<-r2.length];exact hz);refine⟨.ref s.heap.objs.size,_,I.laid (t':=s.toks) (o:=.tup (xs++ys)) (λb ob q=>Heap.get?_push_of_some _ q) (wF _) ?_,rfl,q2 (λw=>z (r2.nil_iff.mpr w)) _ (I.hok.fresh (wF _))⟩;exact⟨by rw[wW];exact hz,_,r1.append r2,IsTup.new _ _⟩
end
noncomputable def ixN(n:Nat)(i:Int):Option Nat:=if 0<=i then (if i<n then some i.toNat else none) else if -(n:Int)<=i then some (i+n).toNat else none
noncomputable def atI{α:Type}(xs:List α)(i:Int):Option α:=(ixN xs.length i).bind λj=>xs[j]?
theorem Z9{n:Nat}{i:Int}{j:Nat}(h:ixN n i=some j):seqIndex? i n=some j/\j<n/\-(n:Int)<=i/\i<n:=by
 unfold ixN at h;by_cases h0:0<=i
 ·rw[if_pos h0]at h;by_cases h1:i<n
  ·rw[if_pos h1]at h;have e:i.toNat=j:=Option.some.inj h;exact⟨by rw[seqIndex_of h0 h1,e],by omega,by omega,h1⟩
  ·rw[if_neg h1]at h;cases h
 ·rw[if_neg h0]at h;by_cases h1:-(n:Int)<=i
  ·rw[if_pos h1]at h;have e:(i+n).toNat=j:=Option.some.inj h;exact⟨by rw[seqIndex_neg (by omega) h1,e],by omega,h1,by omega⟩
  ·rw[if_neg h1]at h;cases h
theorem U9{α:Type}{xs:List α}{i:Int}{v:α}(h:atI xs i=some v):∃j,seqIndex? i xs.length=some j/\xs[j]?=some v/\j<xs.length/\-(xs.length:Int)<=i/\i<xs.length:=by
 unfold atI at h;cases e:ixN xs.length i with
 |none=>rw[e]at h;cases h
 |some j=>
  rw[e]at h;obtain⟨h1,h2,h3,h4⟩:=Z9 e;exact⟨j,h1,h,h2,h3,h4⟩
def PlainIx(b:Expr):Prop:=∀o i,subscripted b false o i=operate [o,i] (getItem o i)
def IxR(X:Cx)(r:R2):Prop:=
 ∀(value slice:Expr) (pins:List (Addr×Obj)) (s:Shared) (σ:St) (H:Hp) (x y:V) (v u:Value) (Q:VK),Inv X pins σ H s->RelV x v->RelV y u->r x y H Q ->
  subscripted slice false v u=operate [v,u] (getItem v u)->wpAny (model X.prog X.w) X.A (subscriptTail value slice v u) (EP X pins σ Q) X.xe s
def MtR(X:Cx)(id:String)(r:V->List V->Hp->VK->Prop):Prop:=
 ∀(pins:List (Addr×Obj)) (s:Shared) (σ:St) (H:Hp) (x:V) (xs:List V) (v:Value) (us:List Value) (Q:VK),Inv X pins σ H s->RelV x v->Vals xs us->r x xs H Q ->
  wpAny (model X.prog X.w) X.A (call (.builtin id) (v::us)) (EP X pins σ Q) X.xe s
section
variable{X:Cx}{a b:Expr}{ta tb:TE}{pos:Pos}
theorem IxR.or{r r':R2}(h:IxR X r)(h':IxR X r'):IxR X (λx y H Q=>r x y H Q\/r' x y H Q):=by
 intro value slice pins s σ H x y v u Q I rx ry q hs;rcases q with q|q
 ·exact h value slice pins s σ H x y v u Q I rx ry q hs
 ·exact h' value slice pins s σ H x y v u Q I rx ry q hs
theorem pe_ix{r:R2}(hr:IxR X r)(ha:PE X a ta)(hb:PE X b tb)(hs:PlainIx b):PE X (.Subscript a b pos) (tOp r ta tb):=by
 intro pins s σ H Q I h;exact Subscript_ (qr ha hb I h λv u s2 x y H2 I2 rx ry q=>hr a b pins s2 σ H2 x y v u Q I2 rx ry q (hs _ _))
noncomputable def qGM(K:PySem.W.Frag):R2:=λx y H Q=>∃p xs i v,x=.ref p/\y=.int i/\SqL K H p xs/\atI xs i=some v/\Q v H
noncomputable def qGX(K:PySem.W.Frag):R2:=λx y H Q=>∃p xs i v,x=.ref p/\y=.int i/\SqT K H p xs/\atI xs i=some v/\Q v H
theorem ix_list:IxR X (qGM X.K):=by
 intro value slice pins s σ H x y v u Q I rx ry h hs;obtain⟨p,xs,i,z,rfl,rfl,hq,he,q⟩:=h;cases rx;obtain⟨t,rfl⟩:=ry;obtain⟨its,r,pl,hz⟩:=I.list hq;obtain⟨j,h1,h2,h3,h4,h5⟩:=U9 he;obtain⟨w,ew,rw'⟩:=r.get h2;have hl:=r.length;have hn:=F5;have fin:EP X pins σ Q w s:=⟨z,H,I,rw',q⟩
 by_cases h0:0<=i
 ·have hj:i.toNat=j:=by
   rw[seqIndex_of h0 h5]at h1;exact Option.some.inj h1
  exact item_listR pl.isList h0 (by omega) (by rw[hj];simpa using ew) fin hs
 ·have hj:(i+(its.toArray.size:Int)).toNat=j:=by
   rw[seqIndex_neg (by omega) h4]at h1;rw[wM,<-hl];exact Option.some.inj h1
  exact subscriptTail_builtinR (x:=w) pl.isList.typeIs slot_list_getitem.lookup
   (wpAny_getItem_list_neg (Q:=λr s'=>r=w/\EP X pins σ Q r s') pl.isList (by omega) (by rw[wM]<;>omega) (by omega) (by rw[hj];simpa using ew) ⟨rfl,fin⟩) hs
theorem ix_tup:IxR X (qGX X.K):=by
 intro value slice pins s σ H x y v u Q I rx ry h hs;obtain⟨p,xs,i,z,rfl,rfl,hq,he,q⟩:=h;cases rx;obtain⟨t,rfl⟩:=ry;obtain⟨its,r,pl,hz⟩:=I.tuple hq;obtain⟨j,h1,h2,h3,h4,h5⟩:=U9 he;obtain⟨w,ew,rw'⟩:=r.get h2;have hl:=r.length;have hn:=F5;have fin:EP X pins σ Q w s:=⟨z,H,I,rw',q⟩
 exact subscriptTail_builtinR (x:=w) pl.typeIs slot_tuple_getitem.lookup
  (getItem_tuple (j:=j) (Q:=λr s'=>r=w/\EP X pins σ Q r s') pl (by omega) (by omega) (by rw[wM,<-hl];exact h1) (by simpa using ew) ⟨rfl,fin⟩) hs
theorem N8(its:List Value)(n j:Nat)(u:Value):Obj.mapSeq (·.setIfInBounds j u) { cls:=.type "list",data:=.seq its.toArray n }={ cls:=.type "list",data:=.seq (its.set j u).toArray n }:=by
 simp[Obj.mapSeq]
theorem Inv.lst{pins:List (Addr×Obj)}{σ:St}{H:Hp}{s:Shared}{p:Addr}{xs:List V}(I:Inv X pins σ H s)(h:H p=some (.lst xs)):
  ∃(its:List Value) (n:Nat),Vals xs its/\s.heap.get? p=some { cls:=.type "list",data:=.seq its.toArray n }/\xs.length<=sizeLine:=by
 obtain⟨z,its,n,r,e⟩:=I.hok p _ h;exact⟨its,n,r,e,z⟩
theorem Inv.lstUpd{pins:List (Addr×Obj)}{σ:St}{H:Hp}{s:Shared}{p:Addr}{xs ys:List V}{its its':List Value}{n n':Nat}{f:Obj->Obj}(I:Inv X pins σ H s)(h:H p=some (.lst xs))
  (ho:s.heap.get? p=some { cls:=.type "list",data:=.seq its.toArray n }) (hf:f { cls:=.type "list",data:=.seq its.toArray n }={ cls:=.type "list",data:=.seq its'.toArray n' }) (r:Vals ys its') (hz:ys.length<=sizeLine) (t:Nat):
  Inv X pins σ (upd H p (.lst ys)) { s with heap:=s.heap.update p f,toks:=t }:=by
 have e:(s.heap.update p f).get? p=some { cls:=.type "list",data:=.seq its'.toArray n' }:=by
  rw[Heap.get?_update_self f ho (by rw[hf]<;>rfl),hf]
 refine I.write (x:=p) (e:=p) (by rw[h];trivial) (.inl rfl) (λb u hb q=>(Heap.get?_update_other _ _ (Ne.symm hb)).trans q) ⟨_,e⟩ ?_;exact⟨hz,its',n',r,e⟩
def rSetL:V->V->V->Hp->(Hp->Prop)->Prop:=λo i v H Q=>∃p xs k j,o=.ref p/\i=.int k/\H p=some (.lst xs)/\ixN xs.length k=some j/\Q (upd H p (.lst (xs.set j v)))
theorem set_list:PSet X rSetL:=by
 intro pins s σ H o i v ov iv u Q I ro ri rv h;obtain⟨p,xs,k,j,rfl,rfl,hp,hj,q⟩:=h;cases ro;obtain⟨t,rfl⟩:=ri;obtain⟨its,n,r,ho,hz⟩:=I.lst hp;obtain⟨h1,h2,h3,h4⟩:=Z9 hj;have hl:=r.length;have hn:=F5;have I':Inv X pins σ (upd H p (.lst (xs.set j v))) { s with heap:=s.heap.update p (Obj.mapSeq (·.setIfInBounds j u)) }:=
  I.lstUpd hp ho (N8 its n j u) (r.set rv j) (by rw[List.length_set];exact hz) s.toks
 by_cases h0:0<=k
 ·have hk:k.toNat=j:=by
   rw[seqIndex_of h0 h4]at h1;exact Option.some.inj h1
  exact PySem.W.ki_setAt ho h0 (by omega) (by rw[wM,<-hl];exact h4) (by rw[hk];exact⟨_,I',q⟩)
 ·have hk:(k+(its.toArray.size:Int)).toNat=j:=by
   rw[seqIndex_neg (by omega) h3]at h1;rw[wM,<-hl];exact Option.some.inj h1
  exact PySem.W.ki_setBack ho (by omega) (by rw[wM,<-hl];exact h3) (by omega) (by rw[hk];exact⟨_,I',q⟩)
theorem Ji(lo hi:Option Int)(n:Nat):(sliceBounds lo hi none n).1=((_H.sIx n 0 lo:Nat):Int)/\(sliceBounds lo hi none n).2.1=((_H.sIx n n hi:Nat):Int)/\(sliceBounds lo hi none n).2.2=1:=by
 refine⟨?_,?_,rfl⟩
 ·cases lo with
  |none=>simp[sliceBounds,_H.sIx]
  |some i=>
   simp only[sliceBounds,_H.sIx,Option.getD_none,show (1:Int)>0 by decide,if_true];by_cases h:i<0
   ·simp only[h,if_true]<;>omega
   ·simp only[h,if_false]<;>omega
 ·cases hi with
  |none=>simp[sliceBounds,_H.sIx]
  |some i=>
   simp only[sliceBounds,_H.sIx,Option.getD_none,show (1:Int)>0 by decide,if_true];by_cases h:i<0
   ·simp only[h,if_true]<;>omega
   ·simp only[h,if_false]<;>omega
theorem JD(its:List Value)(lo hi:Option Int):slicePick its.toArray lo hi none=((its.drop (_H.sIx its.length 0 lo)).take (_H.sIx its.length its.length hi-_H.sIx its.length 0 lo)).toArray:=by
 obtain⟨h1,h2,h3⟩:=Ji lo hi its.toArray.size;unfold slicePick;rw[h1,h2,h3];simp only[sliceRange_one,pick_run,wM]<;>rfl
def qFy(K:PySem.W.Frag):V->Option Int->Option Int->Hp->VK->Prop:=λx lo hi H Q=>∃a xs,x=.ref a/\SqL K H a xs/\∀p,H p=none->Q (.ref p) (upd H p (.lst (cutV xs lo hi)))
theorem sl_list:SlR X (qFy X.K):=by
 intro pins s σ H x v vl vu lo hi sl Q I rx hs pl pu h;obtain⟨a,xs,rfl,hx,q⟩:=h;cases rx;obtain⟨its,r,ht,hz⟩:=I.list hx;have hlen:=r.length;refine⟨"list",_,slot_list_getitem.lookup,ht.isList.typeIs,?_⟩;refine wpAny_getItem_list_slice ht.isList hs pl pu .none (by simp) ?_ (by rw[wM]<;>omega);rw[JD,<-hlen];refine⟨.ref s.heap.objs.size,_,I.laid (t':=s.toks) (o:=.lst (cutV xs lo hi)) (λb ob q=>Heap.get?_push_of_some _ q) (wF _) ?_,rfl,q _ (I.hok.fresh (wF _))⟩;exact⟨wH (ZG xs lo hi) hz,_,0,(r.drop (_H.sIx xs.length 0 lo)).take (_H.sIx xs.length xs.length hi-_H.sIx xs.length 0 lo),Heap.get?_push_size _ rfl⟩
noncomputable def flatV:V->Bool
 | .non=>true
 | .bl _=>true
 | .int _=>true
 | .str _=>true
 |_=>false
noncomputable def eqV:V->V->Bool
 | .non,.non=>true
 | .bl a,.bl b=>a==b
 | .bl a,.int b=>(if a then 1 else 0)==b
 | .int a,.bl b=>a==(if b then 1 else 0)
 | .int a,.int b=>a==b
 | .str a,.str b=>a==b
 |_,_=>false
theorem qDQ{A:Around}{s:Shared}{y x:V}{u v:Value}(ry:RelV y u)(rx:RelV x v)(fy:flatV y=true)(fx:flatV x=true):SeqAt.EqAt A s u v (eqV y x):=by
 cases y with
 |non=>
  cases ry;cases x with
  |non=>cases rx;exact SeqAt.EqAt.same _
  |bl b=>cases rx;exact SeqAt.EqAt.none_bool b
  |int b=>obtain⟨t,rfl⟩:=rx;exact SeqAt.EqAt.none_int b t
  |str b=>obtain⟨t,rfl⟩:=rx;exact SeqAt.EqAt.none_str b t
  |_=>exact absurd (show false=true from fx) wz
 |bl a=>
  cases ry;cases x with
  |non=>cases rx;exact SeqAt.EqAt.bool_none a
  |bl b=>cases rx;exact SeqAt.EqAt.bool_bool a b
  |int b=>obtain⟨t,rfl⟩:=rx;exact SeqAt.EqAt.bool_int a b t
  |str b=>obtain⟨t,rfl⟩:=rx;exact SeqAt.EqAt.bool_str a b t
  |_=>exact absurd (show false=true from fx) wz
 |int a=>
  obtain⟨t',rfl⟩:=ry;cases x with
  |non=>cases rx;exact SeqAt.EqAt.int_none a t'
  |bl b=>cases rx;exact SeqAt.EqAt.int_bool a t' b
  |int b=>obtain⟨t,rfl⟩:=rx;exact SeqAt.EqAt.int_int a t' b t
  |str b=>obtain⟨t,rfl⟩:=rx;exact SeqAt.EqAt.int_str a t' b t
  |_=>exact absurd (show false=true from fx) wz
 |str a=>
  obtain⟨t',rfl⟩:=ry;cases x with
  |non=>cases rx;exact SeqAt.EqAt.str_none a t'
  |bl b=>cases rx;exact SeqAt.EqAt.str_bool a t' b
  |int b=>obtain⟨t,rfl⟩:=rx;exact SeqAt.EqAt.str_int a t' b t
  |str b=>obtain⟨t,rfl⟩:=rx;exact SeqAt.EqAt.str_str a t' b t
  |_=>exact absurd (show false=true from fx) wz
 |_=>exact absurd (show false=true from fy) wz
noncomputable def eqU(x:V)(u:Value):Bool:=match u with
 | .none=>eqV .non x
 | .bool b=>eqV (.bl b) x
 | .int i _=>eqV (.int i) x
 | .str z _=>eqV (.str z) x
 |_=>false
theorem K8{x y:V}{u:Value}(r:RelV y u)(f:flatV y=true):eqU x u=eqV y x:=by
 cases y with
 |non=>cases r;rfl
 |bl b=>cases r;rfl
 |int i=>obtain⟨t,rfl⟩:=r;rfl
 |str z=>obtain⟨t,rfl⟩:=r;rfl
 |_=>exact absurd (show false=true from f) wz
theorem ZB{x:V}:∀{xs:List V}{us:List Value},Vals xs us->xs.all flatV=true->us.any (eqU x)=xs.any λy=>eqV y x
 |_,_,.nil,_=>rfl
 |y::xs,u::us,.cons r t,f=>by
  rw[List.all_cons,wE]at f;rw[List.any_cons,List.any_cons,K8 r f.1,ZB t f.2]
theorem zX{A:Around}{s:Shared}{x:V}{v:Value}(rx:RelV x v)(fx:flatV x=true):∀{xs:List V}{us:List Value},Vals xs us->xs.all flatV=true->∀u∈us,SeqAt.EqAt A s u v (eqU x u)
 |_,_,.nil,_=>λu hu=>by cases hu
 |y::xs,u::us,.cons r t,f=>λu' hu=>by
  rw[List.all_cons,wE]at f;rcases wP.mp hu with rfl|hu
  ·rw[K8 r f.1];exact qDQ r rx f.1 fx
  ·exact zX rx fx t f.2 u' hu
noncomputable def inV(x:V)(xs:List V):Bool:=xs.any λy=>eqV y x
noncomputable def rIn(K:PySem.W.Frag)(neg:Bool):R2:=λx y H Q=>∃p xs,y=.ref p/\(SqL K H p xs\/SqT K H p xs)/\flatV x=true/\xs.all flatV=true/\Q (.bl (if neg then !inV x xs else inV x xs)) H
theorem op_in_seq:OpR X (compareOp .In) (rIn X.K false):=by
 intro pins s σ H x y v u Q I rx ry h;obtain⟨p,xs,rfl,hq,fx,fs,q⟩:=h;cases ry;rcases hq with hq|hq
 ·obtain⟨its,r,pl,hz⟩:=I.list hq;refine SeqAt.in_listAt (eqU x) pl.isList (λw hw=>zX rx fx r fs w (by simpa using hw)) ⟨.bl _,H,I,rfl,?_⟩;rw[show its.toArray.any (eqU x)=its.any (eqU x) by simp,ZB r fs];exact q
 ·obtain⟨its,r,pl,hz⟩:=I.tuple hq;refine SeqAt.in_tupleAt (eqU x) pl (λw hw=>zX rx fx r fs w (by simpa using hw)) ⟨.bl _,H,I,rfl,?_⟩;rw[show its.toArray.any (eqU x)=its.any (eqU x) by simp,ZB r fs];exact q
theorem op_notIn_seq:OpR X (compareOp .NotIn) (rIn X.K true):=by
 intro pins s σ H x y v u Q I rx ry h;obtain⟨p,xs,rfl,hq,fx,fs,q⟩:=h;cases ry;rcases hq with hq|hq
 ·obtain⟨its,r,pl,hz⟩:=I.list hq;refine SeqAt.notIn_listAt (eqU x) pl.isList (λw hw=>zX rx fx r fs w (by simpa using hw)) ⟨.bl _,H,I,rfl,?_⟩;rw[show its.toArray.any (eqU x)=its.any (eqU x) by simp,ZB r fs];exact q
 ·obtain⟨its,r,pl,hz⟩:=I.tuple hq;refine SeqAt.notIn_tupleAt (eqU x) pl (λw hw=>zX rx fx r fs w (by simpa using hw)) ⟨.bl _,H,I,rfl,?_⟩;rw[show its.toArray.any (eqU x)=its.any (eqU x) by simp,ZB r fs];exact q
theorem call_len_seq:qe X (.builtin "len") (λxs H Q=>∃p ys,xs=[.ref p]/\(SqL X.K H p ys\/SqT X.K H p ys)/\Q (.int ys.length) H):=by
 intro pins s σ H xs us Q I r h;obtain⟨p,ys,rfl,hq,q⟩:=h;obtain⟨u,rfl,rx⟩:=vals1 r;cases rx;have hn:=F5;rcases hq with hq|hq
 ·obtain⟨its,r',pl,hz⟩:=I.list hq;have hlen:=r'.length;exact Calls.call_len_list pl.isList (by simp only[wM]<;>omega) ⟨.int ys.length,H,I.tok _,⟨s.toks+1,by rw[wM,hlen]⟩,q⟩
 ·obtain⟨its,r',pl,hz⟩:=I.tuple hq;have hlen:=r'.length;exact len_tuple pl (by simp only[wM]<;>omega) ⟨.int ys.length,H,I.tok _,⟨s.toks+1,by rw[wM,hlen]⟩,q⟩
theorem call_list_of:qe X (.type "list") (λxs H Q=>∃p ys,xs=[.ref p]/\(SqL X.K H p ys\/SqT X.K H p ys)/\∀l,H l=none->Q (.ref l) (upd H l (.lst ys))):=by
 intro pins s σ H xs us Q I r h;obtain⟨p,ys,rfl,hq,q⟩:=h;obtain⟨u,rfl,rx⟩:=vals1 r;cases rx;have fin:∀(its:List Value),Vals ys its->ys.length<=sizeLine->∀(h':Heap) (c':Nat),(∀b o',s.heap.get? b=some o'->h'.get? b=some o') ->
   h'.get? s.heap.objs.size=some { cls:=.type "list",dict:=none,data:=.seq its.toArray c',slots:=#[] }->EP X pins σ Q (.ref s.heap.objs.size) { s with heap:=h' }:=λits r' hz h' c' kp e=>
  ⟨.ref s.heap.objs.size,_,I.laid (t':=s.toks) kp (wF _) (show ObjOk X.prog X.w _ h' _ (.lst ys) from⟨hz,its,c',r',e⟩),rfl,q _ (I.hok.fresh (wF _))⟩
 rcases hq with hq|hq
 ·obtain⟨its,r',pl,hz⟩:=I.list hq;have hlen:=r'.length;obtain⟨o,ho,hc,n,hd⟩:=pl.isList;exact call_list_seq p (.inl rfl) ho hc hd (λh' c' kp e=>fin its r' hz h' c' kp e) (by simp only[wM]<;>omega)
 ·obtain⟨its,r',pl,hz⟩:=I.tuple hq;have hlen:=r'.length;obtain⟨o,ho,hc,n,hd⟩:=pl;exact call_list_seq p (.inr rfl) ho hc hd (λh' c' kp e=>fin its r' hz h' c' kp e) (by simp only[wM]<;>omega)
def tyV(K:PySem.W.Frag)(T:String)(x:V)(H:Hp):Prop:=match x with
 | .str _=>T="str"
 | .int _=>T="int"
 | .ref p=>(T="list"/\∃xs,SqL K H p xs)\/(T="tuple"/\∃o,K.lookup p=some o/\o.cls=.type "tuple"/\o.dict=none)\/
   (T="dict"/\((∃kvs,H p=some (.dK kvs))\/∃kvs,H p=some (.dT kvs)))\/(T="set"/\∃S n,H p=some (.set S n))
 |_=>False
theorem qAq{pins:List (Addr×Obj)}{σ:St}{H:Hp}{s:Shared}{T:String}{x:V}{v:Value}(I:Inv X pins σ H s)(r:RelV x v)(ty:tyV X.K T x H):
  s.TypeIs v T/\∀a,v=.ref a->∃ob,s.heap.get? a=some ob/\ob.dict=none:=by
 cases x with
 |str z=>
  obtain⟨t,rfl⟩:=r;cases (show T="str" from ty);exact⟨typeIs_str s z t,λ_ e=>nomatch e⟩
 |int i=>
  obtain⟨t,rfl⟩:=r;cases (show T="int" from ty);exact⟨typeIs_int s i t,λ_ e=>nomatch e⟩
 |ref p=>
  cases r;rcases ty with⟨rfl,xs,hq⟩|⟨rfl,o,hk,hc,hd⟩|⟨rfl,hk⟩|⟨rfl,S,n,hk⟩
  ·obtain⟨its,_,pl,_⟩:=I.list hq;refine⟨pl.isList.typeIs,λa e=>?_⟩;cases e;obtain⟨o,n,e,c,hd,_⟩:=pl;exact⟨o,e,hd⟩
  ·refine⟨⟨o,I.kIn p o hk,hc⟩,λa e=>?_⟩;cases e;exact⟨o,I.kIn _ o hk,hd⟩
  ·have z:∃o,s.heap.get? p=some o/\o.ExactDict:=by
    rcases hk with⟨kvs,hk⟩|⟨kvs,hk⟩
    ·obtain⟨_,_,_,_,o,_,_,e,ex,_⟩:=I.hok p _ hk;exact⟨o,e,ex⟩
    ·obtain⟨_,_,_,_,o,_,_,e,ex,_⟩:=I.hok p _ hk;exact⟨o,e,ex⟩
   obtain⟨o,e,ex⟩:=z;refine⟨⟨o,e,ex.1⟩,λa e2=>?_⟩;cases e2;exact⟨o,e,ex.2.1⟩
  ·obtain⟨o,_,_,_,e,ex,_⟩:=I.hok p _ hk;refine⟨⟨o,e,ex.1⟩,λa e2=>?_⟩;cases e2;exact⟨o,e,ex.2.1⟩
 |_=>exact False.elim ty
noncomputable def tBM0(K:PySem.W.Frag)(T:String)(r:V->List V->Hp->VK->Prop)(to:TE):TE:=λσ H Q=>to σ H λx H1=>tyV K T x H1/\r x [] H1 Q
noncomputable def tBM(K:PySem.W.Frag)(T:String)(r:V->List V->Hp->VK->Prop)(to:TE)(t:TA):TE:=λσ H Q=>to σ H λx H1=>tyV K T x H1/\t σ H1 λxs H2=>r x xs H2 Q
variable{o e:Expr}{es:List Expr}{to:TE}{t:TA}{name:Str}{apos cpos:Pos}{T id:String}{r:V->List V->Hp->VK->Prop}
theorem pe_bm0(pa:PlainAttrs T)(slot:Slot T name id)(hty:typeOf (.builtin id)=pure (.type "method_descriptor"))(hm:MtR X id r)(ho:PE X o to)
  (hbase:attributeBase o name X.env (eval o X.env)=eval o X.env:=by rfl) (hline:(apos.endLine==cpos.line)=true:=by rfl):PE X (.Call (.Attribute o name apos) [] [] cpos) (tBM0 X.K T r to):=by
 intro pins s σ H Q I h;refine wpAny_Call_method0_late hbase hline (thn (ho pins s σ H _ I h) λv s1 ⟨x,H1,I1,r1,ty,q1⟩=>?_);obtain⟨h1,h2⟩:=qAq I1 r1 ty;exact⟨T,id,pa,slot,hty,h1,h2,Calls.callWith_builtin rfl (PySem.evalArgs_none (hm pins s1 σ H1 x [] v [] Q I1 r1 .nil q1))⟩
theorem pe_bm(pa:PlainAttrs T)(slot:Slot T name id)(hty:typeOf (.builtin id)=pure (.type "method_descriptor"))(hm:MtR X id r)(ho:PE X o to)(ha:PA X (e::es) t)
  (hbase:attributeBase o name X.env (eval o X.env)=eval o X.env:=by rfl)
  (hfew:((backTo cpos (starEach (e::es) X.env)).all (λx=>!x.1)&&(backToKw cpos (keywordEach [] X.env)).all (λx=>x.1.isSome)
   && decide ((e::es).length+([]:List Keyword).length+(if ([]:List Keyword).isEmpty then 0 else 1)<30))=true:=by rfl)
  (hline:(apos.endLine==cpos.line)=true:=by rfl) (hs:starEach (e::es) X.env=(false,eval e X.env)::starEach es X.env:=by rfl) (hplain:(backTo cpos (starEach es X.env)).any (·.1)=false:=by rfl):
  PE X (.Call (.Attribute o name apos) (e::es) [] cpos) (tBM X.K T r to t):=by
 intro pins s σ H Q I h;refine wpAny_Call_method_late hbase hfew hline rfl (thn (ho pins s σ H _ I h) λv s1 ⟨x,H1,I1,r1,ty,q1⟩=>?_);obtain⟨h1,h2⟩:=qAq I1 r1 ty;refine⟨T,id,pa,slot,hty,h1,h2,?_⟩;have hA:=ha cpos pins s1 σ H1 _ I1 q1;rw[hs]at hA ⊢;refine Calls.callWith_builtin (by show (false||(backTo cpos (starEach es X.env)).any (·.1))=false;rw[hplain]<;>rfl) (Calls.evalArgs_plain ?_);exact thn hA λus s2 ⟨vs,H2,I2,r2,q2⟩=>hm pins s2 σ H2 x vs v us Q I2 r1 r2 q2
end
def MtM(X:Cx)(id:String)(r:V->List V->Hp->VK->Prop):Prop:=
 ∀(pins:List (Addr×Obj)) (s:Shared) (σ:St) (H:Hp) (x:V) (xs:List V) (v:Value) (us:List Value) (Q:VK),Inv X pins σ H s->RelV x v->Vals xs us->r x xs H Q ->
  wpAny (model X.prog X.w) X.A (call (.builtin id) (v::us)) (EP X pins σ Q) X.xe s
theorem Vals.one:∀{x:V}{us:List Value},Vals [x] us->∃u,us=[u]/\RelV x u
 |_,_,.cons r .nil=>⟨_,rfl,r⟩
theorem Vals.zero:∀{us:List Value},Vals [] us->us=[]
 |_,.nil=>rfl
theorem Vals.dropLast{xs:List V}{us:List Value}(h:Vals xs us):Vals xs.dropLast us.dropLast:=by
 induction h with
 |nil=>exact .nil
 |cons r t ih=>
  cases t with
  |nil=>exact .nil
  |cons q t'=>exact .cons r ih
theorem Vals.eraseIdx:∀{xs:List V}{us:List Value}(i:Nat),Vals xs us->Vals (xs.eraseIdx i) (us.eraseIdx i)
 |_,_,_,.nil=>.nil
 |_,_,0,.cons _ t=>t
 |_,_,i+1,.cons r t=>.cons r (Vals.eraseIdx i t)
theorem Vals.reverse{xs:List V}{us:List Value}(h:Vals xs us):Vals xs.reverse us.reverse:=by
 induction h with
 |nil=>exact .nil
 |cons r t ih=>rw[List.reverse_cons,List.reverse_cons];exact Vals.append ih (.cons r .nil)
theorem Vals.rep{xs:List V}{us:List Value}(h:Vals xs us):∀k:Nat,Vals (List.replicate k xs).flatten (List.replicate k us).flatten
 | 0=>.nil
 |k+1=>by
  rw[List.replicate_succ,List.replicate_succ,List.flatten_cons,List.flatten_cons];exact Vals.append h (Vals.rep h k)
theorem Jp(its:List Value):∀(k:Nat) (acc:List Value),
  List.foldl (λx1 x2=>x1++x2) acc.toArray (List.replicate k its.toArray)=(acc++(List.replicate k its).flatten).toArray
 | 0,acc=>by simp
 |k+1,acc=>by
  have e:acc.toArray++its.toArray=(acc++its).toArray:=by simp
  have e2:(acc++its)++(List.replicate k its).flatten=acc++(List.replicate (k+1) its).flatten:=by
   rw[List.replicate_succ,List.flatten_cons,wm]
  rw[<-e2,<-Jp its k (acc++its),<-e,List.replicate_succ,List.foldl_cons]
section
variable{X:Cx}{pins:List (Addr×Obj)}{σ:St}{H:Hp}{s:Shared}{l b:Addr}{xs ys zs:List V}
theorem Inv.lset{its its':List Value}{n:Nat}{f:Array Value->Array Value}{t':Nat}(I:Inv X pins σ H s)(hH:H l=some (.lst xs))
  (e:s.heap.get? l=some { cls:=.type "list",data:=.seq its.toArray n }) (hf:f its.toArray=its'.toArray) (hv:Vals ys its') (hz:ys.length<=sizeLine):
  Inv X pins σ (upd H l (.lst ys)) { s with heap:=s.heap.update l (Obj.mapSeq f),toks:=t' }:=by
 have q:=PySem.IsL.update e f;rw[hf]at q;refine I.write (x:=l) (e:=l) (by rw[hH];exact trivial) (.inl rfl) (λb' u hb hu=>(Heap.get?_update_other s.heap (Obj.mapSeq f) (Ne.symm hb)).trans hu) ⟨_,q⟩ ?_;exact⟨hz,its',_,hv,q⟩
theorem Inv.lnew{its:List Value}{t':Nat}(I:Inv X pins σ H s)(hv:Vals ys its)(hz:ys.length<=sizeLine):
  Inv X pins σ (upd H s.heap.objs.size (.lst ys)) { s with heap:=s.heap.push { cls:=.type "list",data:=.seq its.toArray },toks:=t' }:=
 I.laid (λ_ _ q=>Heap.get?_push_of_some _ q) (wF _) ⟨hz,its,0,hv,Heap.get?_push_size _ rfl⟩
theorem Inv.fresh(I:Inv X pins σ H s):H s.heap.objs.size=none:=I.hok.fresh (wF _)
theorem Inv.lstM(I:Inv X pins σ H s)(hH:H l=some (.lst xs)):xs.length<=sizeLine/\∃(its:List Value) (n:Nat),Vals xs its/\xs.length=its.length/\s.heap.get? l=some { cls:=.type "list",data:=.seq its.toArray n }:=by
 obtain⟨z,its,n,r,e⟩:=I.hok l _ hH;exact⟨z,its,n,r,r.length,e⟩
theorem l9{n:Nat}(h:n<=sizeLine):Builtin.List.listTooLong n=false:=by
 unfold Builtin.List.listTooLong;exact uF (by omega)
end
section
variable{X:Cx}
def qBG:V->List V->Hp->VK->Prop:=λx vs H Q=>∃l xs y,x=.ref l/\vs=[y]/\H l=some (.lst xs)/\xs.length<sizeLine/\Q .non (upd H l (.lst (xs++[y])))
theorem mt_append:MtM X "list.append" qBG:=by
 intro pins s σ H x vs v us Q I rx rv h;obtain⟨l,xs,y,rfl,rfl,hH,hz,q⟩:=h;cases rx;obtain⟨u,rfl,ru⟩:=rv.one;obtain⟨z,its,n,r,hl,e⟩:=I.lstM hH;refine call_meets F.slot_list_append ⟨_,e,rfl⟩ F.entry_list_append (F.args_list_append_2 _ _) (PySem.list_append l its.toArray n u (by rw[wM];omega)) ⟨e,?_⟩;refine⟨.non,_,I.lset (its':=its++[u]) hH e (by simp) (r.append (.cons ru .nil)) ?_,rfl,q⟩;rw[wW,List.length_singleton];omega
def rClear:V->List V->Hp->VK->Prop:=λx vs H Q=>∃l xs,x=.ref l/\vs=[]/\H l=some (.lst xs)/\Q .non (upd H l (.lst []))
theorem mt_clear:MtM X "list.clear" rClear:=by
 intro pins s σ H x vs v us Q I rx rv h;obtain⟨l,xs,rfl,rfl,hH,q⟩:=h;cases rx;have hus:=rv.zero;subst hus;obtain⟨z,its,n,r,hl,e⟩:=I.lstM hH;refine call_meets F.slot_list_clear ⟨_,e,rfl⟩ F.entry_list_clear (F.args_list_clear_1 _) (AutoSeq1.list_clear_list_0 l its.toArray n (by rw[wM];omega)) ⟨e,?_⟩;exact⟨.non,_,I.lset (its':=[]) (ys:=[]) hH e rfl .nil (vM _),rfl,q⟩
noncomputable def rCat:R2:=λx y H Q=>∃l b xs zs,x=.ref l/\y=.ref b/\H l=some (.lst xs)/\H b=some (.lst zs)/\xs.length+zs.length<=sizeLine/\∀p,H p=none->Q (.ref p) (upd H p (.lst (xs++zs)))
theorem op_cat:OpR X (binaryOp .Add) rCat:=by
 intro pins s σ H x y v u Q I rx ry h;obtain⟨l,b,xs,zs,rfl,rfl,hH,hB,hz,q⟩:=h;cases rx;cases ry;obtain⟨z,its,n,r,hl,e⟩:=I.lstM hH;obtain⟨z2,its2,n2,r2,hl2,e2⟩:=I.lstM hB;refine PySem.P.add_list e e2 ?_ (by rw[wM,wM];omega);have ea:its.toArray++its2.toArray=(its++its2).toArray:=by simp
 rw[ea];exact⟨.ref _,_,I.lnew (t':=s.toks) (r.append r2) (by rw[wW];omega),rfl,q _ I.fresh⟩
noncomputable def rRep:R2:=λx y H Q=>∃l k xs,x=.ref l/\y=.int k/\H l=some (.lst xs)/\-(2 ^ 63)<=k/\k<2 ^ 63/\xs.length*k.toNat<=sizeLine/\
 ∀p,H p=none->Q (.ref p) (upd H p (.lst (List.replicate k.toNat xs).flatten))
theorem qA1{α:Type}(xs:List α)(k:Nat):(List.replicate k xs).flatten.length=k*xs.length:=by
 induction k with
 |zero=>simp
 |succ k ih=>rw[List.replicate_succ,List.flatten_cons,wW,ih,Nat.succ_mul,Nat.add_comm]
theorem op_rep:OpR X (binaryOp .Mult) rRep:=by
 intro pins s σ H x y v u Q I rx ry h;obtain⟨l,k,xs,rfl,rfl,hH,h1,h2,hz,q⟩:=h;cases rx;obtain⟨t,rfl⟩:=ry;obtain⟨z,its,n,r,hl,e⟩:=I.lstM hH;have hlen:its.toArray.size*k.toNat<=sizeLine:=by rw[wM,<-hl];exact hz
 have hcap:¬ its.toArray.size*k.toNat>(2 ^ 63-1) / 8:=by
  have:(sizeLine:Nat)<=(2 ^ 63-1) / 8:=by decide
  omega
 have hfit:¬ (!Builtin.List.listFitsIndex k)=true:=by
  rw[fitsIndex_both h1 h2];exact wz
 have hlong:¬ Builtin.List.listTooLong (its.toArray.size*k.toNat)=true:=by
  rw[l9 hlen];exact wz
 have hnew:List.foldl (λx1 x2=>x1++x2) #[] (List.replicate (if its.toArray.isEmpty=true then 0 else k.toNat) its.toArray)=(List.replicate k.toNat its).flatten.toArray:=by
  have f0:∀m:Nat,List.foldl (λx1 x2=>x1++x2) #[] (List.replicate m its.toArray)=(List.replicate m its).flatten.toArray:=λm=>by
   have:=Jp its m [];rw[List.nil_append]at this;exact this
  rw[f0];cases its with
  |nil=>simp
  |cons a r'=>rw[if_neg (by simp)]
 refine wpAny_binaryOp_repeat_ref (T:="list") (U:="int") (by decide) ⟨_,e,rfl⟩ (λs'=>typeIs_int s' k t) noFill_list_mul F.fills_int_mul F.slot_int_rmul repeat_list F.slot_int_index.lookup
  (call_meets F.slot_int_rmul (typeIs_int s k t) F.entry_int_rmul (F.args_int_rmul_2 _ _) (int___rmul___int_list k t l its.toArray n)
   ⟨e,rfl,⟨_,e,rfl⟩,call_meets F.slot_list_mul ⟨_,e,rfl⟩ F.entry_list_mul (F.args_list_mul_2 _ _) (AutoListH.list___mul___list_int_3 l its.toArray n k t hfit hcap hlong) ⟨e,?_⟩⟩)
 rw[hnew];exact⟨.ref _,_,I.lnew (t':=s.toks) (r.rep k.toNat) (by rw[qA1,Nat.mul_comm];exact hz),rfl,q _ I.fresh⟩
end
end _L
namespace Att
open PySem PySem.W PySem.Calls PyProof.Rows
theorem ZN{P:Params}{h:Heap}:∀(ns:List Int) (vs:List Value),WellAll P h vs (ns.map WData.int)->IntsAre vs ns:=by
 intro ns
 induction ns with
 |nil=>
  intro vs w;rw[List.map_nil]at w;cases w;exact .nil
 |cons n ns ih=>
  intro vs w;rw[List.map_cons]at w;cases w with
  |cons a b=>
   cases a;exact .cons _ _ (ih _ b)
theorem T4{l:OpenLaw}{n:Nat}(hn:l.most=some n){P:Params}{h:Heap}{args:List WData}{vals:List Value}
  (hpre:l.row.toRowW.claim.pre args=true) (hwl:WellAll P h vals args):
  ∃a vs ns,vals=[Value.ref a]/\args=[WData.list (ns.map WData.int)]/\h.get? a=some { cls:=.type "list",data:=.seq vs.toArray }/\IntsAre vs ns/\ns.length<=n:=by
 have hsh:WShape.hasAll [] args [.list .int]=true:=(pre_splitW hpre).1;have hc:l.pre.holds [] { args:=args }=true:=(pre_splitW hpre).2;obtain⟨d,r,rfl,h1,h2⟩:=hasAllW_cons hsh;obtain rfl:=hasAllW_nil h2;obtain⟨xs,rfl,h3⟩:=hasW_list h1;obtain⟨ns,rfl⟩:=items_int h3;have hlen:ns.length<=n:=by
  unfold OpenLaw.pre at hc;have h4:(WTm.not (.lt (.lit (.int (n:Int))) (.len (.arg 0)))).holds [] { args:=[.list (ns.map .int)] }=true:=by
   have h4:=(holds_andW hc).1;rw[hn]at h4;exact h4
  have h5:=condW_of h4 (w_not (w_lt w_lit (w_len_list (w_arg rfl))));rw[wO]at h5;refine Nat.le_of_not_lt λq=>?_;have q':(n:Int)<((ns.length:Nat):Int):=by omega
  first
   | (rw[uG q']at h5;exact absurd h5 (by decide))
   | (simp at h5;omega)
 cases hwl with
 |cons w1 w2=>
  cases w2;cases w1 with
  |list ho hall=>exact⟨_,_,ns,rfl,rfl,ho,ZN ns _ hall,hlen⟩
theorem Z1(l:OpenLaw)(args:List WData):l.row.toRowW.claim.post args (.bool true) args=true:=
 postW_of (r:=l.row.toRowW) (X:=(true==true))
  (show WShape.has [] (.bool true) .bool=true by first|rfl|decide|simp[WShape.has,WShape.arms,WShape.armsAll])
  (show (WTm.eq .res (.lit (.bool true))).value [] { args:=args,res:=some (.bool true),after:=args }=some (.bool (true==true)) from w_eq_bool (w_res rfl) w_lit) rfl
theorem attach_call{l:OpenLaw}{n:Nat}{q:Program}{loose:List Str}{XP:(Str->Option Value)->Heap->Prop}{YP:World->Heap->Prop}{d:DefRec}
  (hn:l.most=some n) (hdf:d.params.defaults=[])
  (call:∀(w:World) (s₀ s₁:Shared) (mg mb:Str->Option Value) (fa:Addr) (o:Obj) (pm cd doc:Value) (a:Addr) (vs:List Value) (ns:List Int),
   Ground q loose [] XP w s₀ mg mb s₁.heap->YP w s₁.heap ->
   s₁.heap.get? fa=some o->o.data=.func (docDef d.name d.params d.body d.scope pm cd doc)->s₁.heap.CodeRec cd d.name->mg d.name=some (.ref fa) ->
   s₁.heap.get? a=some { cls:=.type "list",data:=.seq vs.toArray }->IntsAre vs ns->ns.length<=n->s₁.gens=#[] ->
   codeAny (model l.prog w) callerA (.call (.ref fa) ⟨[.ref a],[]⟩) (λr s'=>r=.ok (.ret (.bool true))/\OldK s₁.heap s'.heap/\s'.os=s₁.os/\AllBare s'.gens) s₁):
  WalkO q loose XP YP l.row.toRowW d [] (λf vs=>PySem.call f vs):=by
 intro w s₀ s₁ mg mb G Y fa o pm cd doc dV kV ho hd hcd hD hmg hg args vals as hpre hlay hrd hwl hlo;obtain rfl:dV=.none:=Dflts.none hD hdf;obtain rfl:kV=.none:=Dflts.noKw hD;obtain⟨a,vs,ns,rfl,rfl,hobj,hints,hlen⟩:=T4 hn hpre hwl;refine enter_call (codeAny_mono (call w s₀ s₁ mg mb fa o pm cd doc a vs ns G Y ho (fd_plain hd) hcd hmg hobj hints hlen hg) λr s' hq=>?_);obtain⟨rfl,h2,h3,h4⟩:=hq;exact⟨.inl ⟨.bool true,.bool true,[],rfl,λ_=>rfl,.bool true,Z1 l _,λ_=>⟨List.Pairwise.nil,λ_ hm=>(nomatch hm)⟩⟩,h2,h3,h4⟩
end Att
namespace _L
open PySem PySem.Spec PyProof.Rows
theorem zt:∀{vs:List Value}{ns:List Int},IntsAre vs ns->Vals (ns.map V.int) vs
 |_,_,.nil=>.nil
 |_,_,.cons n t h=>.cons ⟨t,rfl⟩ (zt h)
def Only(H:Hp):Prop:=∀b,H b=none\/∃o xs,H b=some (.frz o (.lst xs))
theorem l6{P:Program}{w:World}{K:PySem.W.Frag}{mg mb:Str->Option Value}{CX:CXT}{k:Nat}{fa a:Addr}{fd:FuncData}{x:Str}{sp:Sp}{s₁:Shared}{vs:List Value}{ns:List Int}
  (KX:K.In s₁.heap) (hns:s₁.heap.Ns mainGlobals mg) (hb:s₁.heap.Ns builtinsNs mb) (hbb:∀x:Str,x≠"__name__" -> mb x=bootBuiltins x) (hlim:s₁.heap.NoLimit) (hg:s₁.gens=#[])
  (ha:s₁.heap.get? a=some { cls:=.type "list",data:=.seq vs.toArray }) (hi:IntsAre vs ns) (hl:ns.length<=sizeLine) (hr:Room k callerA)
  (F:∀base:Heap,K.In base->base.Ns mainGlobals mg->FnOk P w K mg base CX k fa fd [x] sp) (hbind:∀(s:Shared) (u:Value),BindsTo s fd ⟨[u],[]⟩ [(x,u)])
  (hsp:∀H:Hp,Only H->SqL K H a (ns.map V.int)->sp [.ref a] H (λv _=>v=.bl true) λ_ _ _=>False)
  (hCX:∀H e s',CX [] H s₁ (λ_ _ _=>False) e s'->False):
  codeAny (model P w) callerA (.call (.ref fa) ⟨[.ref a],[]⟩) (λr s'=>r=.ok (.ret (.bool true))/\OldK s₁.heap s'.heap/\s'.os=s₁.os/\AllBare s'.gens) s₁:=by
 have rv:=zt hi;have lenV:=hi.length;have core:∀H:Hp,Only H->SqL K H a (ns.map V.int)->HOk P w H s₁.heap->(∀b,H b≠none->b=a)->(H a≠none->K.lookup a=none) ->
   codeAny (model P w) callerA (.call (.ref fa) ⟨[.ref a],[]⟩) (λr s'=>r=.ok (.ret (.bool true))/\OldK s₁.heap s'.heap/\s'.os=s₁.os/\AllBare s'.gens) s₁:=by
  intro H hO hS hok hA hK;have base_of:∀{b:Addr}{o:Obj},s₁.heap.get? b=some o->H b=none->(k5 s₁.heap H).get? b=some o:=λe n=>m6 e n;have noA:∀{b:Addr}{o:Obj}{es:Array DictEntry}{ep:Nat},s₁.heap.get? b=some o->o.data=.dict es ep->H b=none:=λ{b o es ep} e d=>by
   cases q:H b with
   |none=>rfl
   |some u=>
    have e':b=a:=hA b (by rw[q];simp);subst e';rw[ha]at e;cases e;have d':Data.seq vs.toArray _=Data.dict es ep:=d;cases d'
  have nsK:∀{b:Addr}{m:Str->Option Value},s₁.heap.Ns b m->(k5 s₁.heap H).Ns b m:=λ{b m} ⟨o,es,ep,e,d,r⟩=>⟨o,es,ep,base_of e (noA e d),d,r⟩
  have hKb:K.In (k5 s₁.heap H):=λb o e=>base_of (KX b o e) (by
   cases q:H b with
   |none=>rfl
   |some u=>
    have e':b=a:=hA b (by rw[q];simp);subst e';rw[hK (by rw[q];simp)]at e;cases e)
  have hM:Mod K mg (k5 s₁.heap H):=⟨hKb,nsK hns,⟨mb,nsK hb,hbb⟩,let ⟨mc,h1,h2⟩:=hlim;⟨mc,nsK h1,h2⟩⟩
  have e0:Env0 P w K mg (k5 s₁.heap H) callerA [] s₁ H:=⟨rfl,hM,λb o e=>qAx e,Nat.le_of_eq (T0 _ _),trivial,λb hb=>absurd (show b∈([]:List Addr) from hb) (by simp),hok,.of_eq hg⟩
  refine codeAny_mono ((F _ hKb (nsK hns)).run callerA [] s₁ H ⟨[.ref a],[]⟩ [.ref a] [.ref a] _ _ hr e0 (hbind s₁ (.ref a)) (.cons rfl .nil) (hsp H hO hS)) λr s' h=>?_;cases r with
  |error e=>exact(hCX H e s' h).elim
  |ok fl=>
   cases fl with
   |next=>exact False.elim h
   |brk=>exact False.elim h
   |cont=>exact False.elim h
   |ret u=>
    obtain⟨v,H',os,bare,un,hok',r',q⟩:=h;have q':v=.bl true:=q;subst q';obtain rfl:u=Value.bool true:=r';refine⟨rfl,OldK.of_keep λb o e=>?_,os,bare⟩;cases q:H b with
    |none=>exact un.keep b o e q (by intro z;exact absurd (show b∈([]:List Addr) from z) (by simp)) (by simp)
    |some u=>
     rcases hO b with z|⟨ob,xs,z⟩
     ·rw[q]at z;cases z
     ·have z2:=un.frzs b ob _ z;obtain⟨e1,_⟩:=hok b _ z;obtain⟨e2,_⟩:=hok' b _ z2;rw[e]at e1;cases e1;exact e2
 cases hk:K.lookup a with
 |some o=>
  have e:=KX a o hk;rw[ha]at e;cases e;refine core (λ_=>none) (λ_=>.inl rfl) (.inr ⟨_,vs.toArray,_,hk,rfl,rfl,rfl,by rw[wM,lenV];exact hl,by simpa using rv⟩) (λb u z=>by have z':(none:Option HO)=some u:=z;cases z') (λb z=>absurd rfl z) λz=>absurd rfl z
 |none=>
  refine core (λb=>if b=a then some (.frz { cls:=.type "list",data:=.seq vs.toArray } (.lst (ns.map V.int))) else none) (λb=>?_) (.inl (.inr ⟨{ cls:=.type "list",data:=.seq vs.toArray },if_pos rfl⟩)) (λb u z=>?_) (λb z=>?_) λ_=>hk
  ·by_cases hb:b=a
   ·exact .inr ⟨_,_,if_pos hb⟩
   ·exact .inl (if_neg hb)
  ·by_cases hb:b=a
   ·have z':=(if_pos hb).symm.trans z;cases z';subst hb;exact⟨ha,by rw[wO];exact hl,vs,_,rv,ha⟩
   ·have z':=(if_neg hb).symm.trans z;cases z'
  ·by_cases hb:b=a
   ·exact hb
   ·exact absurd (if_neg hb) z
theorem walk_of{l:PySem.W.OpenLaw}{n k:Nat}{q:Program}{loose:List Str}{XP:(Str->Option Value)->Heap->Prop}{YP:World->Heap->Prop}{d:DefRec}{K:Params->PySem.W.Frag}{CX:World->CXT}{sp:World->Sp}{x:Str}
  (hn:l.most=some n) (hn2:n<=sizeLine) (hdf:d.params.defaults=[]) (hr:Room k callerA)
  (hY:∀(w:World) (h:Heap),YP w h->(K w.params).In h)
  (F:∀(w:World) (mg:Str->Option Value) (fa:Addr) (h:Heap),(K w.params).In h->h.Ns mainGlobals mg->mg d.name=some (.ref fa) ->
   ∃fd:FuncData,(∀(s:Shared) (u:Value),BindsTo s fd ⟨[u],[]⟩ [(x,u)])/\
    ∀base:Heap,(K w.params).In base->base.Ns mainGlobals mg->FnOk l.prog w (K w.params) mg base (CX w) k fa fd [x] (sp w))
  (hsp:∀(w:World) (H:Hp) (a:Addr) (ns:List Int),ns.length<=n->Only H->SqL (K w.params) H a (ns.map V.int)->sp w [.ref a] H (λv _=>v=.bl true) λ_ _ _=>False)
  (hCX:∀(w:World) (H:Hp) (s:Shared) (e:Value) (s':Shared),CX w [] H s (λ_ _ _=>False) e s'->False):
  PySem.W.WalkO q loose XP YP l.row.toRowW d [] (λf vs=>PySem.call f vs):=by
 refine Att.attach_call hn hdf λw s₀ s₁ mg mb fa o pm cd doc a vs ns G Y ho hd hcd hmg hobj hints hlen hg=>?_;have KX:=hY w _ Y;obtain⟨fd,hb,hF⟩:=F w mg fa _ KX G.T.g hmg;exact l6 KX G.T.g G.T.b G.T.builtins G.T.nolimit hg hobj hints (wH hlen hn2) hr hF hb (λH hO hS=>hsp w H a ns hlen hO hS) λH e s'=>hCX w H s₁ e s'
noncomputable def zV(s:Stmt):Arguments:=match s with
 | .FunctionDef _ a _ _ _ _ _ _ _ _=>a
 |_=>{ posonlyargs:=[],args:=[],vararg:=none,kwonlyargs:=[],kw_defaults:=[],kwarg:=none,defaults:=[] }
noncomputable def defBody(s:Stmt):List Stmt:=match s with
 | .FunctionDef _ _ b _ _ _ _ _ _ _=>b
 |_=>[]
noncomputable def defScope(s:Stmt):Scope:=match s with
 | .FunctionDef _ _ _ _ _ _ sc _ _ _=>sc
 |_=>{ kind:=.function,names:=[],isGenerator:=false,isCoroutine:=false }
noncomputable abbrev CX0:CXT:=λ_ _ _ _ _ _=>False
noncomputable abbrev E0:XK:=λ_ _ _=>False
theorem pass0{X:Cx}:J8 CX0 X E0:=λ_ _ _ _ _ _ _ h=>h.elim
structure Fun(K:PySem.W.Frag)(x qual:Str)(st:Stmt)(f:Addr)(fd:FuncData):Prop where
 ex:∃(oc:Value) (od:Option Addr) (kV doc pm:Value) (an:Option Addr) (cdv ct:Value) (osl:Array (Option Value)),
  fd=PySem.W.fnOf x qual (zV st) (defBody st) (defScope st) .none kV doc pm an cdv ct/\K.lookup f=some ⟨oc,od,.func fd,osl⟩/\PySem.W.codeIn K cdv qual=true
 kp:PySem.W.keepIn K (.ref f)=true
section
variable{P:Program}{w:World}{K:PySem.W.Frag}{mg:Str->Option Value}{base:Heap}
theorem Fun.ok{x qual:Str}{st:Stmt}{f:Addr}{fd:FuncData}{N ps:List Str}{k:Nat}{sp:Sp}(F:Fun K x qual st f fd)(S:zK N ps (defScope st))(len:∀vs H Q E,sp vs H Q E->vs.length=ps.length)
  (hbody:∀(cdv:Value) (A:Around) (outer:List Env) (s:Shared) (H:Hp) (vs:List V) (Q:VK) (E:XK),Room k (A.deeper (envOfC qual (defScope st) s.heap.objs.size f cdv))->sp vs H Q E ->
   ∃t,PSs (cxOf CX0 P w K mg base N qual (defScope st) f cdv A outer s H E).nox (defBody st) t/\t { nx:=λ_ H'=>Q .non H',rt:=Q } (start N vs) H):FnOk P w K mg base CX0 (k+1) f fd ps sp:=by
 obtain⟨oc,od,kV,doc,pm,an,cdv,ct,osl,rfl,lk,hcd⟩:=F.ex;refine qE0 lk hcd S len λA outer s H vs Q E hr hsp=>?_;obtain⟨t,h,q⟩:=hbody cdv A outer s H vs Q E hr hsp;exact⟨t,h.nox,q⟩
theorem Fun.binds{x qual:Str}{st:Stmt}{f:Addr}{fd:FuncData}{ps:List Str}(F:Fun K x qual st f fd)
  (h:∀(kV doc pm:Value) (an:Option Addr) (cdv ct:Value) (us:List Value),us.length=ps.length->bindArgs (PySem.W.fnOf x qual (zV st) (defBody st) (defScope st) .none kV doc pm an cdv ct) ⟨us,[]⟩=pure (ps.zip us)):Binds K fd ps []:=by
 obtain⟨oc,od,kV,doc,pm,an,cdv,ct,osl,rfl,lk,hcd⟩:=F.ex;exact .all (h kV doc pm an cdv ct)
theorem qAd{x qual:Str}{st:Stmt}{f:Addr}{oc:Value}{od an:Option Addr}{osl:Array (Option Value)}{kV doc pm cdv ct:Value}(l:K.lookup f=some ⟨oc,od,.func (PySem.W.fnOf x qual (zV st) (defBody st) (defScope st) .none kV doc pm an cdv ct),osl⟩)
  (c:PySem.W.codeIn K cdv qual=true) (k:PySem.W.keepIn K (.ref f)=true):Fun K x qual st f (PySem.W.fnOf x qual (zV st) (defBody st) (defScope st) .none kV doc pm an cdv ct):=⟨⟨oc,od,kV,doc,pm,an,cdv,ct,osl,rfl,l,c⟩,k⟩
end
def Qk(H H':Hp):Prop:=∀b o,H b=some o->H' b=some o
section
variable{κ:Type}[DecidableEq κ]
noncomputable def valV(kvs:List (κ×V))(k:κ):Option V:=(kvs.find? λkv=>decide (kv.1=k)).map (·.2)
noncomputable def putK(kvs:List (κ×V))(k:κ)(v:V):List (κ×V):=
 if (kvs.any λkv=>decide (kv.1=k))=true then kvs.map (λkv=>if kv.1=k then (kv.1,v) else kv) else kvs++[(k,v)]
noncomputable def qDY(kvs:List (κ×V))(k:κ):List (κ×V):=kvs.filter λkv=>decide (kv.1≠k)
theorem valV_pos{p:κ×V}{r:List (κ×V)}{k:κ}(e:p.1=k):valV (p::r) k=some p.2:=by simp[valV,List.find?_cons,e]
theorem valV_neg{p:κ×V}{r:List (κ×V)}{k:κ}(e:¬ p.1=k):valV (p::r) k=valV r k:=by simp[valV,List.find?_cons,e]
theorem valV_any(k:κ):∀kvs:List (κ×V),(kvs.any λkv=>decide (kv.1=k))=(valV kvs k).isSome
 | []=>rfl
 |p::r=>by
  rw[List.any_cons];by_cases e:p.1=k
  ·simp only[valV_pos e,uG e,Bool.true_or,Option.isSome_some]
  ·rw[valV_neg e,uF e,Bool.false_or];exact valV_any k r
theorem Qn(kvs:List (κ×V))(k:κ)(v:V):(putK kvs k v).length<=kvs.length+1:=by
 unfold putK;split
 ·rw[wO];omega
 ·rw[wW,List.length_cons,List.length_nil];omega
theorem RelO.isSome_eq{o:Option V}{u:Option Value}(r:RelO o u):o.isSome=u.isSome:=by
 cases o with
 |none=>cases u with
  |none=>rfl
  |some _=>exact(show False from r).elim
 |some _=>cases u with
  |none=>exact(show False from r).elim
  |some _=>rfl
theorem RelO.getD{o:Option V}{u:Option Value}{d:V}{d':Value}(r:RelO o u)(rd:RelV d d'):RelV (o.getD d) (u.getD d'):=by
 cases o with
 |none=>cases u with
  |none=>exact rd
  |some _=>exact(show False from r).elim
 |some _=>cases u with
  |none=>exact(show False from r).elim
  |some _=>exact r
theorem KV.val{kvs:List (κ×V)}{vs:List (κ×Value)}(r:KV kvs vs)(k:κ):RelO (valV kvs k) (valueAt vs k):=by
 unfold KV at r
 induction r with
 |nil=>exact True.intro
 | @cons p q ps qs h t ih=>
  obtain⟨h1,h2⟩:=h;by_cases e:p.1=k
  ·have e':q.1=k:=h1.symm.trans e;have b:valueAt (q::qs) k=some q.2:=by simp[valueAt,List.find?_cons,e']
   rw[valV_pos e,b];exact h2
  ·have e':¬ q.1=k:=λz=>e (h1.trans z);have b:valueAt (q::qs) k=valueAt qs k:=by simp[valueAt,List.find?_cons,e']
   rw[valV_neg e,b];exact ih
theorem KV.any{kvs:List (κ×V)}{vs:List (κ×Value)}(r:KV kvs vs)(k:κ):(kvs.any λkv=>decide (kv.1=k))=vs.any λkv=>decide (kv.1=k):=by
 unfold KV at r
 induction r with
 |nil=>rfl
 |cons h t ih=>rw[List.any_cons,List.any_cons,ih,h.1]
theorem KV.repl{kvs:List (κ×V)}{vs:List (κ×Value)}(r:KV kvs vs)(k:κ){y:V}{u:Value}(ry:RelV y u):
  KV (kvs.map λkv=>if kv.1=k then (kv.1,y) else kv) (vs.map λkv=>if kv.1=k then (kv.1,u) else kv):=by
 unfold KV at r ⊢
 induction r with
 |nil=>exact .nil
 | @cons p q ps qs h t ih=>
  rw[List.map_cons,List.map_cons];refine .cons ?_ ih;obtain⟨h1,h2⟩:=h;by_cases e:p.1=k
  ·rw[if_pos e,if_pos (h1.symm.trans e)];exact⟨h1,ry⟩
  ·rw[if_neg e,if_neg (λz=>e (h1.trans z))];exact⟨h1,h2⟩
theorem KV.put{kvs:List (κ×V)}{vs:List (κ×Value)}(r:KV kvs vs)(k:κ){y:V}{u:Value}(ry:RelV y u):KV (putK kvs k y) (stored vs k u):=by
 unfold putK stored;rw[r.any k];by_cases e:(vs.any λkv=>decide (kv.1=k))=true
 ·rw[if_pos e,if_pos e];exact r.repl k ry
 ·rw[if_neg e,if_neg e];exact Paired.snoc r ⟨rfl,ry⟩
theorem KV.drop{kvs:List (κ×V)}{vs:List (κ×Value)}(r:KV kvs vs)(k:κ):KV (qDY kvs k) (without vs k):=by
 unfold KV at r ⊢;unfold qDY without
 induction r with
 |nil=>exact .nil
 | @cons p q ps qs h t ih=>
  obtain⟨h1,h2⟩:=h;rw[List.filter_cons,List.filter_cons];by_cases e:p.1=k
  ·have a:¬ decide (p.1≠k)=true:=by simp[e]
   have b:¬ decide (q.1≠k)=true:=by simp[h1.symm.trans e]
   rw[if_neg a,if_neg b];exact ih
  ·have e':¬ q.1=k:=λz=>e (h1.trans z);have a:decide (p.1≠k)=true:=by simp[e]
   have b:decide (q.1≠k)=true:=by simp[e']
   rw[if_pos a,if_pos b];exact .cons ⟨h1,h2⟩ ih
theorem KV.length{kvs:List (κ×V)}{vs:List (κ×Value)}(r:KV kvs vs):kvs.length=vs.length:=Paired.length r
end
theorem W7{P:Program}{w:World}{k:Key}{u:Value}(r:RelV (kV k) u):(qh P w).is k u=true:=by
 cases k with
 |inl i=>obtain⟨t,e⟩:=(show ∃t,u=Value.int i t from r);subst e;exact D9 P w i t
 |inr x=>obtain⟨t,e⟩:=(show ∃t,u=Value.str x t from r);subst e;exact C2 P w x t
theorem Jg{P:Program}{w:World}:∀{ks:List Key}{us:List Value},Vals (ks.map kV) us->ItemsAre (qh P w) ks us
 | [],_,r=>by rw[List.map_nil]at r;cases r;exact .nil
 |k::ks,_,r=>by
  rw[List.map_cons]at r;cases r with
  |cons h t=>exact .cons (W7 h) (Jg t)
abbrev KT(H:Hp):List (List Key×V)->List (List Key×Addr×Value)->Prop:=Paired λp q=>p.1=q.1/\H q.2.1=some (.tup (p.1.map kV))/\RelV p.2 q.2.2
theorem KT.val{H:Hp}{kvs:List (List Key×V)}{xs:List (List Key×Addr×Value)}(r:KT H kvs xs)(k:List Key):RelO (valV kvs k) ((atKey xs k).map (·.2)):=by
 induction r with
 |nil=>exact True.intro
 | @cons p q ps qs h t ih=>
  obtain⟨h1,_,h2⟩:=h;by_cases e:p.1=k
  ·have e':q.1=k:=h1.symm.trans e;have b:atKey (q::qs) k=some q.2:=by simp[atKey,List.find?_cons,e']
   rw[valV_pos e,b];exact h2
  ·have e':¬ q.1=k:=λz=>e (h1.trans z);have b:atKey (q::qs) k=atKey qs k:=by simp[atKey,List.find?_cons,e']
   rw[valV_neg e,b];exact ih
theorem KT.repl{H:Hp}{kvs:List (List Key×V)}{xs:List (List Key×Addr×Value)}(r:KT H kvs xs)(k:List Key){y:V}{u:Value}(ry:RelV y u):
  KT H (kvs.map λkv=>if kv.1=k then (kv.1,y) else kv) (xs.map (putAt k u)):=by
 induction r with
 |nil=>exact .nil
 | @cons p q ps qs h t ih=>
  rw[List.map_cons,List.map_cons];refine .cons ?_ ih;obtain⟨h1,h2,h3⟩:=h;unfold putAt;by_cases e:p.1=k
  ·rw[if_pos e,if_pos (h1.symm.trans e)];exact⟨h1,h2,ry⟩
  ·rw[if_neg e,if_neg (λz=>e (h1.trans z))];exact⟨h1,h2,h3⟩
theorem KT.put{H:Hp}{kvs:List (List Key×V)}{xs:List (List Key×Addr×Value)}(r:KT H kvs xs)(k:List Key){b:Addr}{y:V}{u:Value}(hb:H b=some (.tup (k.map kV)))(ry:RelV y u):
  KT H (putK kvs k y) (storedH xs k b u):=by
 have e:(kvs.any λkv=>decide (kv.1=k))=(atKey xs k).isSome:=by
  rw[valV_any,(r.val k).isSome_eq,Option.isSome_map]
 unfold putK storedH;rw[e];by_cases q:(atKey xs k).isSome=true
 ·rw[if_pos q,if_pos q];exact r.repl k ry
 ·rw[if_neg q,if_neg q];exact Paired.snoc r ⟨rfl,hb,ry⟩
theorem KT.keeps{H H':Hp}{kvs:List (List Key×V)}{xs:List (List Key×Addr×Value)}(r:KT H kvs xs)(ht:∀b ys,H b=some (.tup ys)->H' b=some (.tup ys)):KT H' kvs xs:=
 Paired.mapP r λ_ _ z=>⟨z.1,ht _ _ z.2.1,z.2.2⟩
section
variable{P:Program}{w:World}{H:Hp}{h:Heap}{a:Addr}
theorem qCZ{u:HO}(ok:HOk P w H h)(e:Rd H a u):ObjOk P w H h a u:=e.ok ok
theorem T3{kvs:List (Key×V)}(ok:HOk P w H h)(e:Rd H a (.dK kvs)):kvs.length<=sizeLine/\(a==sysModules)=false/\∃vs,KV kvs vs/\h.DictOf (qh P w) a vs:=
 show ObjOk P w H h a (.dK kvs) from qCZ ok e
theorem qEw{kvs:List (Key×V)}(ok:HOk P w H h)(e:H a=some (.dK kvs)):kvs.length<=sizeLine/\(a==sysModules)=false/\∃vs,KV kvs vs/\h.DictOf (qh P w) a vs:=T3 ok (.inl e)
theorem A0{ks:List Key}(ok:HOk P w H h)(e:H a=some (.tup (ks.map kV))):(tupleKind (qh P w)).is h ks a:=by
 obtain⟨_,its,r,o,h1,h2,n,h3⟩:=(show ObjOk P w H h a (.tup (ks.map kV)) from ok a _ e)
 exact⟨o,its.toArray,n,h1,h2,h3,by simpa using Jg r⟩
theorem T9{kvs:List (List Key×V)}(ok:HOk P w H h)(e:Rd H a (.dT kvs)):kvs.length<=sizeLine/\(a==sysModules)=false/\
  ∃xs,KT H kvs xs/\h.DictOfH (tupleKind (qh P w)) a xs:=by
 obtain⟨z,y,xs,r,o,es,ep,h1,h2,h3,h4,h5⟩:=(show ObjOk P w H h a (.dT kvs) from qCZ ok e)
 refine⟨z,y,xs,r,o,es,ep,h1,h2,h3,h4,λx hx=>?_,h5⟩;have all:∀{l:List (List Key×V)}{m:List (List Key×Addr×Value)},KT H l m->∀x∈m,(tupleKind (qh P w)).is h x.1 x.2.1:=by
  intro l m q
  induction q with
  |nil=>intro x hx;exact nomatch hx
  | @cons p q ps qs hq t ih=>
   intro x hx;rcases wP.mp hx with e|hx
   ·subst e;exact A0 ok (by rw[<-hq.1];exact hq.2.1)
   ·exact ih x hx
 exact all r x hx
theorem qET{kvs:List (List Key×V)}(ok:HOk P w H h)(e:H a=some (.dT kvs)):kvs.length<=sizeLine/\(a==sysModules)=false/\
  ∃xs,KT H kvs xs/\h.DictOfH (tupleKind (qh P w)) a xs:=T9 ok (.inl e)
end
def DGet(H:Hp)(a:Addr)(y:V)(r:Option V):Prop:=
 (∃kvs k,Rd H a (.dK kvs)/\y=kV k/\r=valV kvs k)\/∃kvs k b,Rd H a (.dT kvs)/\y=.ref b/\H b=some (.tup (k.map kV))/\r=valV kvs k
def DPut(H:Hp)(a:Addr)(y v:V)(H':Hp):Prop:=
 (∃kvs k,H a=some (.dK kvs)/\y=kV k/\kvs.length<sizeLine/\H'=upd H a (.dK (putK kvs k v)))\/
 ∃kvs k b,H a=some (.dT kvs)/\y=.ref b/\H b=some (.tup (k.map kV))/\kvs.length<sizeLine/\H'=upd H a (.dT (putK kvs k v))
theorem DGet.k{H:Hp}{a:Addr}{kvs:List (Key×V)}{k:Key}(e:H a=some (.dK kvs)):DGet H a (kV k) (valV kvs k):=.inl ⟨kvs,k,.inl e,rfl,rfl⟩
theorem DGet.t{H:Hp}{a b:Addr}{kvs:List (List Key×V)}{k:List Key}(e:H a=some (.dT kvs))(eb:H b=some (.tup (k.map kV))):DGet H a (.ref b) (valV kvs k):=.inr ⟨kvs,k,b,.inl e,rfl,eb,rfl⟩
theorem DPut.k{H:Hp}{a:Addr}{kvs:List (Key×V)}{k:Key}{v:V}(e:H a=some (.dK kvs))(hl:kvs.length<sizeLine):DPut H a (kV k) v (upd H a (.dK (putK kvs k v))):=.inl ⟨kvs,k,e,rfl,hl,rfl⟩
theorem DPut.t{H:Hp}{a b:Addr}{kvs:List (List Key×V)}{k:List Key}{v:V}(e:H a=some (.dT kvs))(eb:H b=some (.tup (k.map kV)))(hl:kvs.length<sizeLine):
  DPut H a (.ref b) v (upd H a (.dT (putK kvs k v))):=.inr ⟨kvs,k,b,e,rfl,eb,hl,rfl⟩
section
variable{X:Cx}{pins:List (Addr×Obj)}{σ:St}{H:Hp}{s:Shared}{a:Addr}{y v:V}{u r:Value}{o:Option V}{A:Around}{E:Value->Shared->Prop}
theorem d_getItem{Q:Value->Shared->Prop}(hu:A.units+1<cLine)(I:Inv X pins σ H s)(g:DGet H a y (some v))(ry:RelV y u)(h:∀w' s',Inv X pins σ H s'->RelV v w'->Q w' s'):
  wpAny (model X.prog X.w) A (getItem (.ref a) u) Q E s:=by
 rcases g with⟨kvs,k,e,ey,l⟩|⟨kvs,k,b,e,ey,eb,l⟩
 ·subst ey;obtain⟨z,hd,vs,rel,dd⟩:=T3 I.hok e;obtain⟨w',hw,rw'⟩:=RelO.some_of (v:=v) (o:=valueAt vs k) (by rw[l];exact rel.val k);exact wpAny_getItem_of (W7 ry) dd.mapOf hw (h w' _ (I.tok _) rw')
 ·subst ey;cases (show u=Value.ref b from ry);obtain⟨z,hd,xs,rel,dd⟩:=T9 I.hok e;obtain⟨w',hw,rw'⟩:=RelO.some_of (v:=v) (o:=(atKey xs k).map (·.2)) (by rw[l];exact rel.val k);obtain⟨p,hp,hp2⟩:=wA.mp hw;refine wpAny_getItem_heap (tupleKind_room_in1 hu) (A0 I.hok eb) dd hp ?_;rw[hp2];exact h w' _ (I.tok _) rw'
theorem d_in{Q:Value->Shared->Prop}(hu:A.units+1<cLine)(I:Inv X pins σ H s)(g:DGet H a y o)(ry:RelV y u)(h:∀s',Inv X pins σ H s'->Q (.bool o.isSome) s'):
  wpAny (model X.prog X.w) A (compareOp .In u (.ref a)) Q E s:=by
 rcases g with⟨kvs,k,e,ey,l⟩|⟨kvs,k,b,e,ey,eb,l⟩
 ·subst ey;obtain⟨z,hd,vs,rel,dd⟩:=T3 I.hok e;refine wpAny_in_of (W7 ry) hd dd.mapOf ?_;rw[<-(rel.val k).isSome_eq,<-l];exact h _ (I.tok _)
 ·subst ey;cases (show u=Value.ref b from ry);obtain⟨z,hd,xs,rel,dd⟩:=T9 I.hok e;refine wpAny_in_heap (tupleKind_room_in1 hu) (A0 I.hok eb) hd dd ?_;have q:=(rel.val k).isSome_eq;rw[Option.isSome_map]at q;rw[<-q,<-l];exact h _ (I.tok _)
theorem d_notIn{Q:Value->Shared->Prop}(hu:A.units+1<cLine)(I:Inv X pins σ H s)(g:DGet H a y o)(ry:RelV y u)(h:∀s',Inv X pins σ H s'->Q (.bool (!o.isSome)) s'):
  wpAny (model X.prog X.w) A (compareOp .NotIn u (.ref a)) Q E s:=by
 rcases g with⟨kvs,k,e,ey,l⟩|⟨kvs,k,b,e,ey,eb,l⟩
 ·subst ey;obtain⟨z,hd,vs,rel,dd⟩:=T3 I.hok e;refine wpAny_notIn_of (W7 ry) hd dd.mapOf ?_;rw[<-(rel.val k).isSome_eq,<-l];exact h _ (I.tok _)
 ·subst ey;cases (show u=Value.ref b from ry);obtain⟨z,hd,xs,rel,dd⟩:=T9 I.hok e;refine wpAny_notIn_heap (tupleKind_room_in1 hu) (A0 I.hok eb) hd dd ?_;have q:=(rel.val k).isSome_eq;rw[Option.isSome_map]at q;rw[<-q,<-l];exact h _ (I.tok _)
theorem W9{h':Heap}{t':Nat}{ob:HO}(I:Inv X pins σ H s)(mu:Mut (H a))(hs:Heap.SameBut a s.heap h')(he:∃q,h'.get? a=some q)(new:ObjOk X.prog X.w (upd H a ob) h' a ob):
  Inv X pins σ (upd H a ob) { s with heap:=h',toks:=t' }:=
 I.write (x:=a) (e:=a) mu (.inl rfl) (λb q hb z=>(hs.2 b hb).trans z) he new
theorem qDv{P:Program}{w:World}{H':Hp}{h':Heap}{kvs:List (Key×V)}{vs:List (Key×Value)}(z:kvs.length<=sizeLine)(hd:(a==sysModules)=false)(rel:KV kvs vs)(dd:h'.DictOf (qh P w) a vs):
  ObjOk P w H' h' a (.dK kvs):=⟨z,hd,vs,rel,dd⟩
theorem d_setItem{H':Hp}{Q:Unit->Shared->Prop}(hu:A.units+1<cLine)(I:Inv X pins σ H s)(g:DPut H a y v H')(ry:RelV y u)(rv:RelV v r)(h:∀s',Inv X pins σ H' s'->Q () s'):
  wpAny (model X.prog X.w) A (setItem (.ref a) u r) Q E s:=by
 rcases g with⟨kvs,k,e,ey,l,eH⟩|⟨kvs,k,b,e,ey,eb,l,eH⟩
 ·subst ey eH;obtain⟨z,hd,vs,rel,dd⟩:=qEw I.hok e;have hz:vs.length<=sizeLine:=by rw[<-rel.length];exact z
  have hl:(putK kvs k v).length<=sizeLine:=by have:=Qn kvs k v;omega
  refine wpAny_setItem_pairs (hsz:=hz) (W7 ry) dd λh' dd' hs=>h _ ?_;have he:∃q,h'.get? a=some q:=let ⟨q,_,_,hq,_⟩:=dd';⟨q,hq⟩
  exact W9 I (by rw[e];exact True.intro) hs he (qDv hl hd (rel.put k rv) dd')
 ·subst ey eH;cases (show u=Value.ref b from ry);obtain⟨z,hd,xs,rel,dd⟩:=qET I.hok e;have hz:xs.length<=sizeLine:=by rw[<-Paired.length rel];exact z
  have hl:(putK kvs k v).length<=sizeLine:=by have:=Qn kvs k v;omega
  refine wpAny_setItem_heap (hsz:=hz) (tupleKind_room_in1 hu) (A0 I.hok eb) dd λh' dd' hs=>h _ ?_;obtain⟨q,es,ep,hq,h2,h3,h4,_,h5⟩:=dd';refine W9 I (by rw[e];exact True.intro) hs ⟨q,hq⟩ ⟨hl,hd,_,(rel.put k eb rv).keeps λc ys ec=>?_,q,es,ep,hq,h2,h3,h4,h5⟩;rw[qE (qEE ec e (λz=>nomatch z))];exact ec
end
theorem dict_typeIs{X:Cx}{pins:List (Addr×Obj)}{σ:St}{H:Hp}{s:Shared}{a:Addr}{y:V}{o:Option V}(I:Inv X pins σ H s)(g:DGet H a y o):s.TypeIs (.ref a) "dict":=by
 rcases g with⟨kvs,k,e,_,_⟩|⟨kvs,k,b,e,_,_,_⟩
 ·obtain⟨_,_,vs,_,dd⟩:=T3 I.hok e;exact dd.typeIs
 ·obtain⟨_,_,xs,_,dd⟩:=T9 I.hok e;exact dd.typeIs
noncomputable def qCT(kvs more:List (Key×V)):List (Key×V):=more.foldl (λacc kv=>putK acc kv.1 kv.2) kvs
structure M1(X:Cx)(o:Expr)(m:Str)(apos:Pos)(e:Expr)(cpos:Pos):Prop where
 base:attributeBase o m X.env (eval o X.env)=eval o X.env
 few:((backTo cpos (starEach [e] X.env)).all (λx=>!x.1)&&(backToKw cpos (keywordEach [] X.env)).all (λx=>x.1.isSome)
  && decide (([e]:List Expr).length+([]:List Keyword).length+(if ([]:List Keyword).isEmpty then 0 else 1)<30))=true
 line:(apos.endLine==cpos.line)=true
 trees:backTo cpos (starEach [e] X.env)=[(false,eval e X.env)]
structure M2(X:Cx)(o:Expr)(m:Str)(apos:Pos)(e f:Expr)(cpos:Pos):Prop where
 base:attributeBase o m X.env (eval o X.env)=eval o X.env
 few:((backTo cpos (starEach [e,f] X.env)).all (λx=>!x.1)&&(backToKw cpos (keywordEach [] X.env)).all (λx=>x.1.isSome)
  && decide (([e,f]:List Expr).length+([]:List Keyword).length+(if ([]:List Keyword).isEmpty then 0 else 1)<30))=true
 line:(apos.endLine==cpos.line)=true
 trees:backTo cpos (starEach [e,f] X.env)=[(false,eval e X.env),(false,eval f X.env)]
end _L
set_option maxHeartbeats 4000000
namespace _L
open PySem PySem.Spec PyProof.Rows
theorem KV.len{kvs:List (Key×V)}{vs:List (Key×Value)}(r:KV kvs vs):vs.length=kvs.length:=(Paired.length r).symm
theorem KV.key{kvs:List (Key×V)}{vs:List (Key×Value)}(r:KV kvs vs){i:Nat}{k:Key×V}(e:kvs[i]?=some k):∃v,vs[i]?=some (k.1,v):=by
 induction r generalizing i with
 |nil=>simp at e
 |cons h t ih=>
  cases i with
  |zero=>cases e;exact⟨_,by rw[List.getElem?_cons_zero];congr 1;exact Prod.ext h.1.symm rfl⟩
  |succ i=>exact ih (by simpa using e)
noncomputable def P9(cells:List (Str×Addr)):List (Str×NameKind)->List (Str×Addr)->List (Str×Addr)
 | [],cs=>cs
 | (n,k)::r,cs=>P9 cells r (if k=.free then (match cells.lookup n with|some c=>(n,c)::cs|none=>cs) else cs)
theorem ze{scope:Scope}{env:Env}(h:∀y∈scope.names,y.2=.free->∃c,env.cells.lookup y.1=some c):closureFor scope env=pure (P9 env.cells scope.names []):=by
 simp only[closureFor];generalize scope.names=names at h;have key:∀(names:List (Str×NameKind)) (cs:List (Str×Addr)),(∀y∈names,y.2=.free->∃c,env.cells.lookup y.1=some c) ->
   (forIn names cs λx r=>if (x.2==NameKind.free)=true then do let c <- cellOf env x.1;pure (ForInStep.yield ((x.1,c)::r)) else pure (ForInStep.yield r))=(pure (P9 env.cells names cs):Sem _):=by
  intro names
  induction names with
  |nil=>intro cs _;rfl
  |cons y r ih=>
   intro cs hy;obtain⟨n,k⟩:=y;rw[List.forIn_cons];by_cases hk:k=.free
   ·subst hk;obtain⟨c,hc⟩:=hy (n,.free) wN rfl;have hc':List.lookup n env.cells=some c:=hc;have e:cellOf env n=pure c:=by unfold cellOf;rw[hc']
    simp only[uK,if_true,e,pure_bind,P9,hc'];exact ih _ λy hm=>hy y (wI _ hm)
   ·have hb:(k==NameKind.free)=false:=by simpa using hk
    simp only[hb,vK,if_false,pure_bind,P9,if_neg hk];exact ih _ λy hm=>hy y (wI _ hm)
 rw[key names [] h];rfl
theorem qAQ{cells:List (Str×Addr)}{x:Str}{c:Addr}:∀{names:List (Str×NameKind)}{cs:List (Str×Addr)},(P9 cells names cs).lookup x=some c->cs.lookup x=some c\/cells.lookup x=some c
 | [],cs,h=>.inl h
 | (n,k)::r,cs,h=>by
  unfold P9 at h;rcases qAQ h with h2|h2
  ·clear h;by_cases hk:k=.free
   ·rw[if_pos hk]at h2;cases e:cells.lookup n with
    |none=>rw[e]at h2;exact .inl h2
    |some c'=>
     rw[e]at h2;simp only[List.lookup_cons]at h2;cases hx:x==n with
     |true=>
      have hx':x=n:=by simpa using hx
      rw[hx]at h2;subst hx';cases h2;exact .inr e
     |false=>
      rw[hx]at h2;exact .inl h2
   ·rw[if_neg hk]at h2;exact .inl h2
  ·exact .inr h2
theorem qAK{cells:List (Str×Addr)}{x:Str}{c:Addr}(hc:cells.lookup x=some c):∀{names:List (Str×NameKind)}{cs:List (Str×Addr)},((x,NameKind.free)∈names\/cs.lookup x=some c)->(∀c',cs.lookup x=some c'->c'=c)->(P9 cells names cs).lookup x=some c
 | [],cs,h,_=>by
  rcases h with h|h
  ·exact nomatch h
  ·exact h
 | (n,k)::r,cs,h,hu=>by
  unfold P9;refine qAK hc ?_ ?_
  ·rcases h with h|h
   ·rcases wP.mp h with h|h
    ·cases h;right;rw[if_pos rfl,hc];simp
    ·exact .inl h
   ·right;by_cases hk:k=.free
    ·rw[if_pos hk];cases e:cells.lookup n with
     |none=>exact h
     |some c'=>
      simp only[List.lookup_cons];cases hx:x==n with
      |true=>
       have hx':x=n:=by simpa using hx
       subst hx';rw[hc]at e;cases e;rfl
      |false=>exact h
    ·rw[if_neg hk];exact h
  ·intro c' h';by_cases hk:k=.free
   ·rw[if_pos hk]at h';cases e:cells.lookup n with
    |none=>rw[e]at h';exact hu c' h'
    |some c2=>
     rw[e]at h';simp only[List.lookup_cons]at h';cases hx:x==n with
     |true=>
      have hx':x=n:=by simpa using hx
      subst hx';rw[hx]at h';rw[hc]at e;cases e;cases h';rfl
     |false=>
      rw[hx]at h';exact hu c' h'
   ·rw[if_neg hk]at h';exact hu c' h'
theorem QK{env:Env}:∀{names:List (Str×NameKind)}{x:Str},names.lookup x=some .free ->
  (names.map λ(n,k)=>if (k==NameKind.free&&env.scope.kind==.function&&env.kindOf n==some .cell) then (n,NameKind.cell) else (n,k)).lookup x=some .cell\/
  (names.map λ(n,k)=>if (k==NameKind.free&&env.scope.kind==.function&&env.kindOf n==some .cell) then (n,NameKind.cell) else (n,k)).lookup x=some .free
 | [],_,h=>by simp at h
 | (n,k)::r,x,h=>by
  have ih:=@QK env r x;simp only[List.map_cons];cases hx:x==n with
  |true=>
   simp only[List.lookup_cons,hx]at h;cases h;by_cases hc:(NameKind.free==NameKind.free&&env.scope.kind==.function&&env.kindOf n==some .cell)=true
   ·rw[if_pos hc];left;simp[List.lookup_cons,hx]
   ·rw[if_neg hc];right;simp[List.lookup_cons,hx]
  |false=>
   simp only[List.lookup_cons,hx]at h;by_cases hc:(k==NameKind.free&&env.scope.kind==.function&&env.kindOf n==some .cell)=true
   ·rw[if_pos hc];simp only[List.lookup_cons,hx];exact ih h
   ·rw[if_neg hc];simp only[List.lookup_cons,hx];exact ih h
theorem zy{env:Env}:∀{names:List (Str×NameKind)}{x:Str},
  ((names.map λ(n,k)=>if (k==NameKind.free&&env.scope.kind==.function&&env.kindOf n==some .cell) then (n,NameKind.cell) else (n,k)).lookup x=some .cell\/
  (names.map λ(n,k)=>if (k==NameKind.free&&env.scope.kind==.function&&env.kindOf n==some .cell) then (n,NameKind.cell) else (n,k)).lookup x=some .free)->names.lookup x=some .free\/names.lookup x=some .cell
 | [],_,h=>by simp at h
 | (n,k)::r,x,h=>by
  have ih:=@zy env r x;simp only[List.map_cons]at h;cases hx:x==n with
  |true=>
   simp only[List.lookup_cons,hx];by_cases hc:(k==NameKind.free&&env.scope.kind==.function&&env.kindOf n==some .cell)=true
   ·rw[if_pos hc]at h;have hk:k=.free:=by
     cases k<;>first|rfl|(simp at hc)
    rw[hk];exact .inl rfl
   ·rw[if_neg hc]at h;simp only[List.lookup_cons,hx]at h;exact h.symm
  |false=>
   simp only[List.lookup_cons,hx];by_cases hc:(k==NameKind.free&&env.scope.kind==.function&&env.kindOf n==some .cell)=true
   ·rw[if_pos hc]at h;simp only[List.lookup_cons,hx]at h;exact ih h
   ·rw[if_neg hc]at h;simp only[List.lookup_cons,hx]at h;exact ih h
theorem jR:∀(names:List (Str×NameKind)) (a:Nat) (acc:List (Str×Addr)),cellsFrom a names acc=cellsFrom a names []++acc
 | [],a,acc=>rfl
 | (n,k)::r,a,acc=>by
  unfold cellsFrom;split
  ·rw[jR r (a+1) ((n,a)::acc),jR r (a+1) [(n,a)],wm];rfl
  ·exact jR r a acc
theorem Zv{x:Str}{c:Addr}:∀{names:List (Str×NameKind)}{a:Nat},(x,c)∈cellsFrom a names []->(x,NameKind.cell)∈names
 | [],a,h=>nomatch h
 | (n,k)::r,a,h=>by
  unfold cellsFrom at h;split at h
  ·rename_i hk;rw[jR,wL]at h;rcases h with h|h
   ·exact wI _ (Zv h)
   ·have:(x,c)=(n,a):=wY.mp h;cases this;rw[beq_iff_eq.mp hk];exact wN
  ·exact wI _ (Zv h)
theorem K7{x:Str}:∀{names:List (Str×NameKind)}{a:Nat},(x,NameKind.cell)∈names->∃c,(cellsFrom a names []).lookup x=some c
 | [],a,h=>nomatch h
 | (n,k)::r,a,h=>by
  unfold cellsFrom;rcases wP.mp h with h|h
  ·cases h;rw[if_pos (by decide),jR,vO];cases (cellsFrom (a+1) r []).lookup x with
   |none=>exact⟨a,by simp⟩
   |some c=>exact⟨c,rfl⟩
  ·split
   ·obtain⟨c,hc⟩:=K7 (a:=a+1) h;exact⟨c,by rw[jR,vO,hc];rfl⟩
   ·exact K7 h
noncomputable def zk(X:Cx)(scope:Scope)(C:Addr):List (Str×Addr):=cellsFrom (C+1) scope.names (P9 X.env.cells scope.names [])
noncomputable def cxComp(X:Cx)(scope:Scope)(C:Addr)(fp:List Addr)(s₂:Shared)(H₂:Hp)(N:List Str):Cx:=
 { X with N:=N,s₀:=s₂,H₀:=H₂,env:=compEnvC scope (zk X scope C) C X.env,outer:=X.stack,ex:=fp,fn:=λx=>decide (scope.names.lookup x=some .cell),pn:=[],xe:=λ_ _=>False }
noncomputable def inner(src:List (Option Nat))(σ:St):St:=src.map λo=>match o with|none=>none|some j=>(σ[j]?).join
structure CompScope(X:Cx)(scope:Scope)(N:List Str)(src:List (Option Nat)):Prop where
 kind:scope.kind=.function
 uniq:∀y∈scope.names,scope.names.lookup y.1=some y.2
 frees:∀y∈scope.names,y.2=NameKind.free->X.env.kindOf y.1=some .cell\/X.env.kindOf y.1=some .free
 nd:N.Nodup
 len:src.length=N.length
 from_:∀(i:Nat) x j,N[i]?=some x->src[i]?=some (some j)->X.N[j]?=some x/\scope.names.lookup x=some .free
theorem qb{x:Str}{k:NameKind}:∀{names:List (Str×NameKind)},names.lookup x=some k->(x,k)∈names
 | [],h=>by simp at h
 | (n,k')::r,h=>by
  cases hx:x==n with
  |true=>
   simp only[List.lookup_cons,hx]at h;have hx':x=n:=by simpa using hx
   cases h;subst hx';exact wN
  |false=>
   simp only[List.lookup_cons,hx]at h;exact wI _ (qb h)
section
variable{X:Cx}{pins:List (Addr×Obj)}{σ:St}{H₂:Hp}{s₂:Shared}{scope:Scope}{N:List Str}{src:List (Option Nat)}{fp:List Addr}
theorem CompScope.cells(S:CompScope X scope N src)(ok:X.Ok):∀y∈scope.names,y.2=.free->∃c,X.env.cells.lookup y.1=some c:=λy hy hk=>ok.has y.1 (S.frees y hy hk)
theorem CompScope.names(S:CompScope X scope N src):∀y∈scope.names,y.2=NameKind.local->scope.names.lookup y.1=some .local:=λy hy hk=>by rw[<-hk];exact S.uniq y hy
theorem qk{C:Addr}{h₁:Heap}(ow:CellsOk h₁ (C+1) (cellsFrom (C+1) scope.names [])){x:Str}{c:Addr}(h:(zk X scope C).lookup x=some c):
  ((x,c)∈cellsFrom (C+1) scope.names []/\(x,NameKind.cell)∈scope.names/\h₁.IsCell c none/\C<c)\/X.env.cells.lookup x=some c:=by
 unfold zk at h;rw[jR,vO]at h;cases e:(cellsFrom (C+1) scope.names []).lookup x with
 |some c'=>
  rw[e]at h;cases h;have m:=PySem.mem_of_lookup e;exact .inl ⟨m,Zv m,(ow.empty x c m).1,(ow.empty x c m).2⟩
 |none=>
  rw[e]at h;rcases qAQ (show (P9 X.env.cells scope.names []).lookup x=some c by simpa using h) with h|h
  ·simp at h
  ·exact .inr h
theorem Zq(S:CompScope X scope N src){C:Addr}{x:Str}{c:Addr}(hf:scope.names.lookup x=some .free)(h:X.env.cells.lookup x=some c):(zk X scope C).lookup x=some c:=by
 unfold zk;rw[jR,vO];have:(cellsFrom (C+1) scope.names []).lookup x=none:=by
  cases e:(cellsFrom (C+1) scope.names []).lookup x with
  |none=>rfl
  |some c'=>
   have:=S.uniq _ (Zv (PySem.mem_of_lookup e));rw[hf]at this;cases this
 rw[this,qAK h (.inl (qb hf)) (by intro c' h';simp at h')];rfl
theorem qB4(S:CompScope X scope N src)(I:Inv X pins σ H₂ s₂)(f2:∀b∈fp,ZS X pins H₂ b)(ob:∀b∈fp,∃o,s₂.heap.get? b=some o/\∀v,o.data≠.cell v){C:Addr}(hC:s₂.heap.objs.size<=C){h₁:Heap}(ow:CellsOk h₁ (C+1) (cellsFrom (C+1) scope.names [])):
  (cxComp X scope C fp s₂ H₂ N).Ok:=by
 have lt:∀x c,X.env.cells.lookup x=some c->c<s₂.heap.objs.size:=λx c h=>let ⟨v,q⟩:=I.cell x c h;q.lt
 refine⟨I.ok.mod,S.kind,I.ok.glob,I.ok.blt,hC,λx y c h1 h2=>?_,λx hx=>?_,λx c hf h=>?_,I.ok.hd,I.ok.frames,.inl rfl,λb hb=>⟨?_,λx c h=>?_⟩,λb o e=>I.bs b o e,?_,λb o e hb=>?_,λb hb=>?_,I.stack,I.stkFree⟩
 ·rcases qk ow h1 with⟨m1,_,_,g1⟩|g1<;>rcases qk ow h2 with⟨m2,_,_,g2⟩|g2
  ·exact PySem.name_of_addr ow.apart m1 m2
  ·exact absurd (wx (wG (lt y c g2) hC) g1) (wf _)
  ·exact absurd (wx (wG (lt x c g1) hC) g2) (wf _)
  ·exact I.ok.inj x y c g1 g2
 ·rcases zy hx with hf|hf
  ·obtain⟨c,hc⟩:=S.cells I.ok (x,.free) (qb hf) rfl;exact⟨c,Zq S hf hc⟩
  ·obtain⟨c,hc⟩:=K7 (a:=C+1) (qb hf);exact⟨c,by show (zk X scope C).lookup x=_;unfold zk;rw[jR,vO,hc];rfl⟩
 ·have hf':scope.names.lookup x=some .cell:=uI hf;rcases qk ow h with⟨_,_,_,g⟩|g
  ·exact wv (Nat.lt_of_le_of_lt hC g)
  ·unfold cxComp at h;have h:(zk X scope C).lookup x=some c:=h;obtain⟨c',hc'⟩:=K7 (a:=C+1) (qb hf');have e:(zk X scope C).lookup x=some c':=by unfold zk;rw[jR,vO,hc'];rfl
   rw[e]at h;cases h;have:=(ow.empty x c (PySem.mem_of_lookup hc')).2;exact wH hC (Nat.le_of_succ_le this)
 ·obtain⟨o,e,_⟩:=ob b hb;exact wU (wG (Heap.lt_size e) hC)
 ·rcases qk ow h with⟨_,_,_,g⟩|g
  ·obtain⟨o,e,_⟩:=ob b hb;exact vi (wx (wG (Heap.lt_size e) hC) g)
  ·exact(f2 b hb).2.2.2.2.1 x c g
 ·exact wH I.ok.bsz I.sz
 ·rcases(f2 b hb).2.2.2.1 with z|z
  ·exact I.ok.noex b o e z
  ·exact absurd (wG (Heap.lt_size e) (wH I.ok.bsz z)) (wf _)
 ·intro hz;rcases wP.mp (I.stkSub b hz) with e|e
  ·exact(f2 b hb).2.1 e
  ·exact(f2 b hb).2.2.1 e
theorem JH(S:CompScope X scope N src)(I:Inv X pins σ H₂ s₂)(f2:∀b∈fp,ZS X pins H₂ b)(ob:∀b∈fp,∃o,s₂.heap.get? b=some o/\∀v,o.data≠.cell v){C:Addr}{h₁:Heap}{m:Str->Option Value}{tk n:Nat}
  (hC:s₂.heap.objs.size<C) (keep:∀b o,s₂.heap.get? b=some o->h₁.get? b=some o) (hD:h₁.get? s₂.heap.objs.size=some { cls:=.type "list",data:=.seq #[] n }) (hn:h₁.Ns C m) (ow:CellsOk h₁ (C+1) (cellsFrom (C+1) scope.names [])):
  Inv (cxComp X scope C fp s₂ H₂ N) [] (inner src σ) (upd H₂ s₂.heap.objs.size (.lst [])) { s₂ with heap:=h₁,toks:=tk }:=by
 have lt:∀x c,X.env.cells.lookup x=some c->c<s₂.heap.objs.size:=λx c h=>let ⟨v,q⟩:=I.cell x c h;q.lt
 have hfr:H₂ s₂.heap.objs.size=none:=I.hok.fresh (wF _);refine⟨qB4 S I f2 ob (wv hC) ow,rfl,I.bare,Un.laid keep (wF _) hfr,⟨m,hn,λi x v e1 e2 e3=>?_⟩,λx c h=>?_,?_,λx c h=>?_,λp hp=>absurd (show p∈([]:List (Addr×Obj)) from hp) (by simp),I.hok.laid keep (wF _) ⟨by simp,[],n,.nil,hD⟩,?_⟩
 ·have e2':(inner src σ)[i]?=some (some v):=e2;unfold inner at e2';rw[wl]at e2';cases q:src[i]? with
  |none=>rw[q]at e2';cases e2'
  |some o=>
   rw[q]at e2';cases o with
   |none=>cases e2'
   |some j=>
    have ej:(σ[j]?).join=some v:=Option.some.inj e2';have ej':σ[j]?=some (some v):=by
     cases z:σ[j]? with
     |none=>rw[z]at ej;cases ej
     |some w=>rw[z]at ej;exact congrArg some ej
    obtain⟨n1,n2⟩:=S.from_ i x j e1 q;obtain⟨m0,hn0,hl⟩:=I.loc;have hfr':=S.frees (x,.free) (qb n2) rfl;obtain⟨u,r,l⟩:=hl j x v n1 ej' (by rcases hfr' with z|z;exact .inr (.inl z);exact .inr (.inr z));refine⟨u,r,.inr ⟨QK n2,?_⟩⟩;rcases l with⟨k,_⟩|⟨_,c,hc,o,ho,hd⟩
    ·have k':X.env.kindOf x=some .local:=k;rcases hfr' with z|z
     ·have z':X.env.kindOf x=some .cell:=z;rw[k']at z';cases z'
     ·have z':X.env.kindOf x=some .free:=z;rw[k']at z';cases z'
    ·exact⟨c,Zq S n2 hc,o,keep c o ho,hd⟩
 ·rcases qk ow h with⟨_,_,g,_⟩|g
  ·exact⟨none,g⟩
  ·obtain⟨v,o,ho,hd⟩:=I.cell x c g;exact⟨v,o,keep c o ho,hd⟩
 ·show upd H₂ s₂.heap.objs.size (.lst []) C=none;rw[qE (vi hC)];exact I.hok.fresh (wv hC)
 ·rcases qk ow h with⟨_,_,_,g⟩|g
  ·rw[qE (vi (wx hC g))];exact I.hok.fresh (wv (wx hC g))
  ·rw[qE (wU (lt x c g))];exact I.freeC x c g
 ·show (inner src σ).length=N.length;unfold inner;rw[wO,S.len]
theorem Jj(I:Inv X pins σ H₂ s₂)(f2:∀b∈fp,ZS X pins H₂ b){C:Addr}{pins':List (Addr×Obj)}{σ':St}{H':Hp}{s':Shared}{h':Heap}(hC:s₂.heap.objs.size<=C)(J:Inv (cxComp X scope C fp s₂ H₂ N) pins' σ' H' s')
  (kp:∀b o,b≠C->s'.heap.get? b=some o->h'.get? b=some o):Inv X pins σ H' { s' with heap:=h' }:=by
 have neC:∀b o,s₂.heap.get? b=some o->b≠C:=λb o e=>wU (wG (Heap.lt_size e) hC);have B:=J.base;refine I.call' (s':={ s' with heap:=h' }) (ch:=fp) J.os ⟨λb o e n hb hx=>kp b o (neC b o e) (B.keep b o e n hb hx),λb o e n hb hx=>?_,B.free,λb o e hx=>?_,B.tups,B.frzs,B.tbls⟩ (λa o e=>?_) J.bare λb hb=>⟨(f2 b hb).2.2.2.1,(f2 b hb).2.1,(f2 b hb).2.2.2.2⟩
 ·obtain⟨sl,q⟩:=B.slot b o e n hb hx;exact⟨sl,kp b _ (neC b o e) q⟩
 ·obtain⟨o',q⟩:=B.there b o e hx;exact⟨o',kp b o' (neC b o e) q⟩
 ·have nC:H' C=none:=J.free;have ne:∀b u,H' b=some u->b≠C:=λb u q z=>by rw[z,nC]at q;cases q
  refine(J.hok a o e).stay (λc v hc q=>kp c v ?_ q) (λ_ q=>q) λ_ _ q=>q;rcases hc with z|z
  ·rw[z];exact ne a o e
  ·exact ne c _ z
end
def PTs(X:Cx)(ifs:List Expr)(t:TT):Prop:=
 ∀(pins:List (Addr×Obj)) (s:Shared) (σ:St) (H:Hp) (Q:Bool->Hp->Prop),Inv X pins σ H s->t σ H Q ->
  wpAny (model X.prog X.w) X.A (forIn ifs true λc r=>if r=true then do let ok <- isTrue c X.env (eval c X.env);pure (ForInStep.yield ok) else pure (ForInStep.yield r)) (TP X pins σ Q) X.xe s
theorem pts_nil{X:Cx}:PTs X [] (λ_ H Q=>Q true H):=λpins s σ H Q I h=>uE ⟨H,I,h⟩
theorem pts_one{X:Cx}{c:Expr}{t:TT}(hc:PT X c t):PTs X [c] t:=by
 intro pins s σ H Q I h;rw[List.forIn_cons];simp only[if_true];refine uD (uD (thn (hc pins s σ H Q I h) λb s1 q=>?_));exact uE (uE q)
noncomputable def tComp(wi:TI)(src:List (Option Nat))(g:TG)(tc:TT)(te:TE):TE:=λσ H Q=>wi σ H λJ H1=>∀D,H1 D=none ->
 ∃W:Nat->Nat->List V->St->Hp->Prop,(∃m,W 0 m [] (inner src σ) (upd H1 D (.lst [])))/\∀i m ys σ' H',W i m ys σ' H'->H' D=some (.lst ys) ->
  (J.stop i H'/\Q (.ref D) H')\/
  (J.go i H'/\∀x H2,J.yld i H' x H2->g x σ' H2 λσ3 H3=>tc σ3 H3 λb H4=>
   if b=true then te σ3 H4 λy H5=>H5 D=some (.lst ys)/\ys.length<sizeLine/\∃m',m'<m/\W (i+1) m' (ys++[y]) σ3 (upd H5 D (.lst (ys++[y])))
   else H4 D=some (.lst ys)/\∃m',m'<m/\W (i+1) m' ys σ3 H4)
section
variable{X:Cx}{pins:List (Addr×Obj)}{σ:St}{H₂:Hp}{s₂:Shared}{scope:Scope}{N:List Str}{src:List (Option Nat)}
theorem C7{M:Model}{A:Around}{E:Value->Shared->Prop}{s:Shared}{scope:Scope}{globals:Addr}{cl:List (Str×Addr)}{qual:Str}{env:Env}{Q:Env->Shared->Prop}
  (h:Q (newEnv scope s.heap.objs.size globals (cellsFrom (s.heap.objs.size+1) scope.names cl) qual none .none (some env) builtinsNs) { s with heap:=pushCells (s.heap.push { cls:=.type "dict",data:=.dict #[] }) scope.names }):
  wpAny M A (newFunctionEnv scope globals cl [] qual none .none (some env)) Q E s:=by
 simp only[newFunctionEnv,Option.isSome_some,if_true];refine uD (wpAny_alloc ?_);refine uD (wpAny_layCells _ (λname kind cells=>by cases hkc:kind==NameKind.cell<;>simp[hkc]) _ _ _ _ ?_);rw[show ({ s with heap:=s.heap.push { cls:=.type "dict",data:=.dict #[] } }:Shared).heap.objs.size=s.heap.objs.size+1 from Heap.size_push ..];refine uD ?_;rw[List.forIn_nil];exact uE (uE h)
theorem G8{elt tg iter:Expr}{ifs:List Expr}{pos:Pos}{g:TG}{tc:TT}{te:TE}{it:Addr}{fp:List Addr}{tn:Nat->Heap->Prop}{J:It}{Q:VK}{E:Value->Shared->Prop}{RR:Value->Addr->Result->Shared->Prop}
  (hc:X.calm=true) (S:CompScope X scope N src) (I2:Inv X pins σ H₂ s₂) (T:A6 X.prog X.w X.K tg J fp it tn) (st2:tn 0 s₂.heap) (f2:∀b∈fp,ZS X pins H₂ b)
  (hg:∀C fp s H,PG (cxComp X scope C fp s H N) tg g) (ht:∀C fp s H,PTs (cxComp X scope C fp s H N) ifs tc) (he:∀C fp s H,PE (cxComp X scope C fp s H N) elt te)
  (h:∀D,H₂ D=none->∃W:Nat->Nat->List V->St->Hp->Prop,(∃m,W 0 m [] (inner src σ) (upd H₂ D (.lst [])))/\∀i m ys σ' H',W i m ys σ' H'->H' D=some (.lst ys) ->
   (J.stop i H'/\Q (.ref D) H')\/
   (J.go i H'/\∀x H2,J.yld i H' x H2->g x σ' H2 λσ3 H3=>tc σ3 H3 λb H4=>
    if b=true then te σ3 H4 λy H5=>H5 D=some (.lst ys)/\ys.length<sizeLine/\∃m',m'<m/\W (i+1) m' (ys++[y]) σ3 (upd H5 D (.lst (ys++[y])))
    else H4 D=some (.lst ys)/\∃m',m'<m/\W (i+1) m' ys σ3 H4))
  (hRR:∀(D C:Addr) (σ':St) (H':Hp) (s':Shared),s₂.heap.objs.size<=C->Inv (cxComp X scope C fp s₂ H₂ N) [] σ' H' s'->Q (.ref D) H'->RR (.ref D) C (.ok .next) s'):
  wpAny (model X.prog X.w) X.A (newList []) (λacc s₃=>wpAny (model X.prog X.w) X.A (newFunctionEnv scope X.env.globals (P9 X.env.cells scope.names []) [] X.env.qual none .none (some X.env)) (λcenv s₄=>
   codeAny (model X.prog X.w) X.A (.compStart (.ListComp elt [⟨tg,iter,ifs,0⟩] scope pos) 0 (.ref it) acc { cenv with scope:=relabel scope X.env }) (RR acc cenv.locals) s₄) E s₃) E s₂:=by
 refine wpAny_newObj_type (C7 ?_);dsimp only;generalize hH2:s₂.heap.push { cls:=.type "list",dict:=none,data:=.seq ([]:List Value).toArray }=P2;have hC:P2.objs.size=s₂.heap.objs.size+1:=by rw[<-hH2,Heap.size_push]
 have ow:=cellsFrom_ok scope.names (P2.push { cls:=.type "dict",data:=.dict #[] }) (P2.objs.size+1) [] ⟨λ_ _ hm=>(nomatch hm),List.Pairwise.nil⟩ (by rw[Heap.size_push];exact wF _);rw[Heap.size_push]at ow;generalize hh1:pushCells (P2.push { cls:=.type "dict",data:=.dict #[] }) scope.names=h₁ at ow ⊢;have kp:∀b o,P2.get? b=some o->h₁.get? b=some o:=λb o e=>hh1 ▸ pushCells_keeps _ _ b o (Heap.get?_push_of_some _ e);have hns₁:h₁.Ns P2.objs.size (λ_=>none):=hh1 ▸ (Heap.Ns.new P2 (.type "dict")).keeps (pushCells_keeps _ _);have old:∀b o,s₂.heap.get? b=some o->h₁.get? b=some o:=λb o e=>kp b o (hH2 ▸ Heap.get?_push_of_some _ e);have hacc:h₁.get? s₂.heap.objs.size=some { cls:=.type "list",data:=.seq #[] }:=kp _ _ (hH2 ▸ Heap.get?_push_size _ rfl);have st1:tn 0 h₁:=T.keep _ _ _ st2 λb _ o e=>old b o e;have ob:=T.obj _ _ st2;have lt:s₂.heap.objs.size<P2.objs.size:=by rw[hC];exact vU _
 have I3:=JH (tk:=s₂.toks) S I2 f2 ob lt old hacc hns₁ ow;obtain⟨W,⟨m0,w0⟩,step⟩:=h s₂.heap.objs.size I2.fresh;have fpn:∀b∈fp,b≠s₂.heap.objs.size:=λb hb=>by
  obtain⟨o,e,_⟩:=ob b hb;exact wU (Heap.lt_size e)
 have fok:∀{pins':List (Addr×Obj)}{H':Hp},(∀b∈fp,H' b=none)->(∀p∈pins',p.1∉fp)->∀b∈fp,ZS (cxComp X scope P2.objs.size fp s₂ H₂ N) pins' H' b:=λ{pins' H'} hn hp b hb=>by
  have okc:=I3.ok;exact⟨hn b hb,(okc.exf b hb).1,okc.exfs b hb,.inl hb,(okc.exf b hb).2,λp hp' z=>hp p (by simpa [cxComp] using hp') (z ▸ hb)⟩
 have loop:∀s₃:Shared,s₃={ s₂ with heap:=h₁,toks:=s₂.toks } ->
   codeAny (model X.prog X.w) X.A (.compLoop (.ListComp elt [⟨tg,iter,ifs,0⟩] scope pos) 0 (.ref it) (.ref s₂.heap.objs.size) (compEnvC scope (zk X scope P2.objs.size) P2.objs.size X.env))
    (RR (.ref s₂.heap.objs.size) P2.objs.size) s₃:=by
  rintro s₃ rfl;refine codeAny_loop rfl (λn s'=>∃i ys σ' H',Inv (cxComp X scope P2.objs.size fp s₂ H₂ N) [] σ' H' s'/\tn i s'.heap/\(∀b∈fp,H' b=none)/\H' s₂.heap.objs.size=some (.lst ys)/\W i n ys σ' H') (λn s' hI=>?_) m0
   ⟨0,[],inner src σ,_,I3,st1,λb hb=>by rw[qE (fpn b hb)];exact(f2 b hb).1,qD,w0⟩
  obtain⟨i,ys,σ3,H3,J3,st3,fr3,hD3,w3⟩:=hI;show wpAny _ X.A ((compTurn (.ListComp elt [⟨tg,iter,ifs,0⟩] scope pos) 0 (.ref it) (.ref s₂.heap.objs.size) _).onRaise (λx=>do noteFrame x _;theTreesLotGoes x)) _ _ s';refine wpAny_noted ?_;rw[compTurn_list];have never:∀{α:Type}{t:Sem α}{Q1:α->Shared->Prop}{E1:Value->Shared->Prop}{s1:Shared},wpAny (model X.prog X.w) X.A t Q1 (λ_ _=>False) s1->wpAny (model X.prog X.w) X.A t Q1 E1 s1:=λh=>wpAny_mono h (λ_ _ q=>q) λ_ _ f=>f.elim;refine uD (wpAny_standAt (uD ?_));rcases step i n ys σ3 H3 w3 hD3 with⟨stop,qn⟩|⟨go,qAO⟩
  ·refine never (thn (T.done (cxComp X scope P2.objs.size fp s₂ H₂ N) rfl rfl rfl hc i [] s' σ3 H3 _ J3 (fok fr3 (by simp)) st3 stop) λr s4 ⟨hr,I4⟩=>?_);subst hr;exact uE (hRR _ _ σ3 H3 s4 (wv lt) I4 qn)
  ·refine never (thn (T.item (cxComp X scope P2.objs.size fp s₂ H₂ N) rfl rfl rfl hc i [] s' σ3 H3 _ J3 (fok fr3 (by simp)) st3 go) λr s4 ⟨u,hr,h4⟩=>?_);subst hr;refine uD (never (thn h4 λ_ s5 ⟨x,H5,I5,r5,y5,st5,fr5⟩=>?_));have I5':=I5.pinned (fok fr5 (by simp)) (T.obj _ _ st5);have kept:∀{σ7:St}{H7:Hp}{s7:Shared},Inv (cxComp X scope P2.objs.size fp s₂ H₂ N) ([]++A2 fp s5.heap) σ7 H7 s7->Inv (cxComp X scope P2.objs.size fp s₂ H₂ N) [] σ7 H7 s7/\tn (i+1) s7.heap/\∀b∈fp,H7 b=none:=λ{σ7 H7 s7} I7=>by
    refine⟨I7.unpinned,T.keep _ _ _ st5 λb hb o e=>(I7.pin (b,o) (wT _ (wT _ (jJ hb e)))).1,λb hb=>?_⟩;obtain⟨o,e,d⟩:=T.obj _ _ st5 b hb;exact(I7.pin (b,o) (wT _ (wT _ (jJ hb e)))).2.1
   refine uD (never (thn (hg _ _ _ _ _ s5 σ3 H5 x u _ I5' r5 (qAO x H5 y5)) λ_ s6 ⟨σ6,H6,I6,q6⟩=>?_));refine uD (never (thn (ht _ _ _ _ _ s6 σ6 H6 _ I6 q6) λb s7 ⟨H7,I7,q7⟩=>?_));cases b with
   |false=>
    rw[if_neg (by decide)]at q7;obtain⟨hD7,m',hm,w7⟩:=q7;obtain⟨I7',st7,fr7⟩:=kept I7;exact uE ⟨rfl,m',hm,i+1,ys,σ6,H7,I7',st7,fr7,hD7,w7⟩
   |true=>
    rw[if_pos rfl]at q7;refine uD (uD (never (thn (he _ _ _ _ _ s7 σ6 H7 _ I7 q7) λyv s8 ⟨y,H8,I8,r8,hD8,hz,m',hm,w8⟩=>?_)));refine uD (never (thn (mt_append (X:=cxComp X scope P2.objs.size fp s₂ H₂ N) _ s8 σ6 H8 (.ref s₂.heap.objs.size) [y] _ [yv] (λv H'=>v=.non/\H'=upd H8 s₂.heap.objs.size (.lst (ys++[y]))) I8 rfl (.cons r8 .nil) ⟨_,ys,y,rfl,rfl,hD8,hz,rfl,rfl⟩) λ_ s9 ⟨v9,H9,I9,_,_,e9⟩=>?_));subst e9;obtain⟨I9',st9,fr9⟩:=kept I9;exact uE (uE ⟨rfl,m',hm,i+1,_,σ6,_,I9',st9,fr9,qD,w8⟩)
 exact codeAny_compStart_list (loop _ rfl) (T.self _ 0 _ _ _ st1 (loop _ rfl))
end
section
variable{X:Cx}{scope:Scope}{N:List Str}{src:List (Option Nat)}{elt tg iter:Expr}{ifs:List Expr}{pos:Pos}{wi:TI}{g:TG}{tc:TT}{te:TE}
theorem pe_comp(hc:X.calm=true)(hi:_P X tg iter wi)(S:CompScope X scope N src)
  (hg:∀C fp s H,PG (cxComp X scope C fp s H N) tg g) (ht:∀C fp s H,PTs (cxComp X scope C fp s H N) ifs tc) (he:∀C fp s H,PE (cxComp X scope C fp s H N) elt te)
  (hs:∀x,foldedSetIterable iter X.env x=pure x:=by intro _;rfl):PE X (.ListComp elt [⟨tg,iter,ifs,0⟩] scope pos) (tComp wi src g tc te):=by
 intro pins s σ H Q I h;rw[eval_ListComp];refine wpAny_comprehension_free (use:=none) rfl hs (ze (S.cells I.ok)) S.kind S.names (thn (hi pins s σ H _ I h) λv s1 h1=>thn h1 λitv s2 h2=>?_);obtain⟨it,fp,tn,J,H2,rfl,I2,T,st2,f2,hW⟩:=h2;refine G8 (Q:=Q) (RR:=λacc C=>compPost (model X.prog X.w) X.A X.xe none (EP X pins σ Q) acc C) hc S I2 T st2 f2 hg ht he hW ?_;intro D C σ' H' s' hC J q;obtain⟨m,hn,_⟩:=id J.loc;exact⟨m,hn,λh' hs'=>⟨.ref D,H',Jj I2 f2 hC J (λb o hb e=>hs'.extBut b o hb e),rfl,q⟩⟩
theorem ps_setcomp{i:Nat}{x:Str}{pos' spos:Pos}(hc:X.calm=true)(hi:_P X tg iter wi)(S:CompScope X scope N src)
  (hg:∀C fp s H,PG (cxComp X scope C fp s H N) tg g) (ht:∀C fp s H,PTs (cxComp X scope C fp s H N) ifs tc) (he:∀C fp s H,PE (cxComp X scope C fp s H N) elt te)
  (hsw:swapsWith (.ListComp elt [⟨tg,iter,ifs,0⟩] scope pos) (some (.Name x pos')) spos.line X.env=pure true)
  (hN:X.N.Nodup) (hx:X.N[i]?=some x) (hl:X.env.scope.names.lookup x=some .local)
  (hs:∀x,foldedSetIterable iter X.env x=pure x:=by intro _;rfl):PS X (.Assign [.Name x pos'] (.ListComp elt [⟨tg,iter,ifs,0⟩] scope pos) spos) (tAsg (tComp wi src g tc te) (qCe i)):=by
 intro pins s σ H D I h;rw[exec_Assign_Name_used _ _ _ _ hsw];refine uD (wpAny_standAt (uD ?_));show wpAny _ X.A (do let _ <- comprehension (.ListComp elt [⟨tg,iter,ifs,0⟩] scope pos) scope X.env _ (newList []) false (eval iter X.env) (some (assign (.Name x pos') X.env))) _ _ s;refine uD (wpAny_mono (wpAny_comprehension_free (use:=some (assign (.Name x pos') X.env)) (Q:=λ_ s'=>SP X pins D .next s') rfl hs (ze (S.cells I.ok)) S.kind S.names
  (thn (hi pins s σ H _ I h) λv s1 h1=>thn h1 λitv s2 h2=>?_)) (λ_ s' hq=>uE (uE hq)) λ_ _ e=>e)
 obtain⟨it,fp,tn,J,H2,rfl,I2,T,st2,f2,hW⟩:=h2;refine G8 (Q:=λv H'=>D.nx (σ.set i (some v)) H') (RR:=λacc C=>compPost (model X.prog X.w) X.A X.xe (some (assign (.Name x pos') X.env)) (λ_ s'=>SP X pins D .next s') acc C) hc S I2 T st2 f2 hg ht he hW ?_;intro L C σ' H' s' hC J q;obtain⟨m,hn,_⟩:=id J.loc;have I3:Inv X pins σ H' s':=Jj (h':=s'.heap) I2 f2 hC J (λb o hb e=>e);show wpAny _ X.A (assign (.Name x pos') X.env (.ref L)) _ _ _;have nL:X.env.locals≠C:=wU (wG I2.lt hC);refine wpAny_assign_Name (Jc I3 hN hx (.inl hl) (show RelV (.ref L) (.ref L) from rfl) (λs4 I4 hsb=>?_) (.inr hl));obtain⟨a,sb,ha⟩:=hsb;have ha':a≠C:=by
  rcases ha with z|z
  ·rw[z];exact nL
  ·obtain⟨v,hv⟩:=I2.cell x a z;exact wU (wG hv.lt hC)
 refine⟨m,hn.sameBut sb (Ne.symm ha'),λh5 sb5=>?_⟩;have I5:Inv X pins (σ.set i (some (V.ref L))) H' { s4 with heap:=h5,toks:=s4.toks }:=I4.turned (it:=C) (λb o hb e=>sb5.extBut b o hb e) J.free (Ne.symm nL) (.inr (wH I2.sz hC)) (λy c e z=>by
   obtain⟨v,hv⟩:=I2.cell y c e;exact absurd (wG hv.lt (by rw[z];exact hC)) (wf _)) λp hp z=>absurd (wG (Heap.lt_size (I2.pin p hp).1) (by rw[z];exact hC)) (wf _)
 exact⟨_,H',I5,q⟩
end
end _L
namespace _P
open _L (V Key)
open PySem (Str)
inductive BOp|add|sub|mul|fdiv|mod|pow|band
 deriving DecidableEq
inductive COp|lt|le|gt|ge|eq|ne|inn|notin|is|isnot
 deriving DecidableEq
inductive BF|len|sum|max|min|list|int|bits|maxl
 deriving DecidableEq
inductive Mt|clr
 deriving DecidableEq
inductive Tg|name(i:Nat)|tup(is:List Nat)
 deriving DecidableEq
set_option genInjectivity false
mutual
inductive E
 |var (i:Nat)|cst (v:V)|glob (g:Nat)
 |bin (op:BOp) (a b:E)|neg (a:E)
 |cmp (op:COp) (a b:E)|cmp2 (o1 o2:COp) (a b c:E)
 |and (a b:E)|or (a b:E)|not (a:E)|ite (c a b:E)
 |call (f:Nat) (as:Es)|blt (f:BF) (as:Es)|isi (a:E) (ts:List String)
 |idx (a b:E)|sl (a:E) (lo hi:Es)  | index (a b:E)|lst (as:Es)|tup (as:Es)
 |comp (it:Itr) (src:List (Option Nat)) (g:Tg) (c:Es) (e:E)
 |app (a b:E)|lrng (a:E)|dnew|meth (m:Mt) (a:E) (as:Es)     | nset (a:E)|sset (a:E)      | dix (a b:E)
inductive Es|nil|cons(a:E)(as:Es)
inductive Itr|list(a:E)|rng1(a:E)|rng2(a b:E)|zip(a b:E)
end
mutual
inductive S
 |asg (g:Tg) (e:E)  | put (o i v:E)
 |expr (e:E)|ret (e:E)  | ifs (c:E) (t u:Ss)
 |for_ (g:Tg) (it:Itr) (b:Ss)     | stop
       |dlp (u x:Nat) (e k v:E)
inductive Ss|nil|cons(s:S)(r:Ss)
end
set_option genInjectivity true
noncomputable def Es.snoc:Es->E->Es
 | .nil,e=>.cons e .nil
 | .cons a as,e=>.cons a (Es.snoc as e)
inductive Ob|dct(kvs:List (Int×V))|exn(c:Str)
 deriving DecidableEq
inductive O|lst(fz:Bool)(xs:List V)|tup(xs:List V)|ob(o:Ob)
 deriving DecidableEq
noncomputable abbrev AH:=List O
noncomputable abbrev St:=List (Option V)
inductive Res(α:Type)|ok(a:α)|exc(c:Nat)(h:AH)|stuck
noncomputable def Res.bind{α β:Type}:Res α->(α->Res β)->Res β
 | .ok a,f=>f a
 | .exc c h,_=>.exc c h
 | .stuck,_=>.stuck
noncomputable def Res.nx{α:Type}:Res α->Res α
 | .ok a=>.ok a
 | .exc _ _=>.stuck
 | .stuck=>.stuck
@[simp] theorem tF{α β:Type}(a:α)(f:α->Res β):(Res.ok a).bind f=f a:=rfl
noncomputable abbrev RV:=Res (V×AH)
noncomputable def items(h:AH)(a:Nat):Option (List V):=match h[a]? with
 |some (.lst _ xs)=>some xs
 |some (.tup xs)=>some xs
 |_=>none
noncomputable def qL(h:AH)(a:Nat):Option (List V):=match h[a]? with
 |some (.lst _ xs)=>some xs
 |_=>none
noncomputable def qT(h:AH)(a:Nat):Option (List V):=match h[a]? with
 |some (.tup xs)=>some xs
 |_=>none
noncomputable def zz(h:AH)(a:Nat):Option (List (Int×V)):=match h[a]? with
 |some (.ob (.dct kvs))=>some kvs
 |_=>none
noncomputable def Q0(kvs:List (Int×V))(k:Int):Bool:=kvs.any λp=>decide (p.1=k)
noncomputable def z9(kvs:List (Int×V))(k:Int)(v:V):List (Int×V):=if Q0 kvs k=true then kvs.map (λp=>if p.1=k then (p.1,v) else p) else kvs++[(k,v)]
noncomputable def m4(kvs:List (Int×V))(k:Int):Option V:=(kvs.find? λp=>decide (p.1=k)).map (·.2)
noncomputable def qDS(h:AH)(a:Nat):Option Str:=match h[a]? with
 |some (.ob (.exn c))=>some c
 |_=>none
noncomputable def qg(h:AH)(a:Nat):Option (List V):=match h[a]? with
 |some (.lst false xs)=>some xs
 |_=>none
noncomputable def lim:Nat:=100000
noncomputable def newL(xs:List V)(h:AH):RV:=.ok (.ref h.length,h++[.lst false xs])
noncomputable def newT(xs:List V)(h:AH):RV:=.ok (.ref h.length,h++[.tup xs])
noncomputable def flat:V->Bool
 | .non=>true | .bl _=>true | .int _=>true | .str _=>true|_=>false
noncomputable def eqF:V->V->Option Bool
 | .int i,.int j=>some (i==j)
 | .bl i,.bl j=>some (i==j)
 | .str i,.str j=>some (i==j)
 | .non,.non=>some true
 | .int i,.bl b=>some (i==(if b then 1 else 0))
 | .bl b,.int i=>some ((if b then 1 else 0)==i)
 | .non,.int _=>some false | .int _,.non=>some false
 | .non,.bl _=>some false | .bl _,.non=>some false
 | .non,.str _=>some false | .str _,.non=>some false
 | .int _,.str _=>some false | .str _,.int _=>some false
 | .bl _,.str _=>some false | .str _,.bl _=>some false
 |_,_=>none
noncomputable def ZU(f:V->V->Option Bool):List V->List V->Option (List Bool)
 | [],[]=>some []
 |x::xs,y::ys=>match f x y,ZU f xs ys with
  |some b,some bs=>some (b::bs)
  |_,_=>none
 |_,_=>none
noncomputable def eqD(h:AH):Nat->V->V->Option Bool
 | 0,x,y=>eqF x y
 |n+1,.ref a,.ref b=>match h[a]?,h[b]? with
  |some (.lst _ xs),some (.lst _ ys)=>if a=b then some true else if xs.length=ys.length then (ZU (eqD h n) xs ys).map λbs=>bs.all id else some false
  |some (.tup xs),some (.tup ys)=>if a=b then some true else if xs.length=ys.length then (ZU (eqD h n) xs ys).map λbs=>bs.all id else (ZU (eqD h n) (xs.take ys.length) (ys.take xs.length)).map λ_=>false
  |some (.lst _ _),some (.tup _)=>some false
  |some (.tup _),some (.lst _ _)=>some false
  |_,_=>none
 |_+1,.ref a,y=>if (items h a).isSome&&flat y then some false else none
 |_+1,x,.ref b=>if flat x&&(items h b).isSome then some false else none
 |_+1,x,y=>eqF x y
noncomputable abbrev ixN(n:Nat)(i:Int):Option Nat:=_L.ixN n i
noncomputable abbrev cut(xs:List V)(lo hi:Option Int):List V:=_L.cutV xs lo hi
noncomputable def two64:Int:=18446744073709551616
noncomputable def QU(i:Int):Bool:=decide (-two64<i/\i<two64)
noncomputable def mid(i:Int):Bool:=decide (i.natAbs.log2<9000)
noncomputable def S4(x y:V)(f:Int->Int->RV):RV:=match x with
 | .int i=>(match y with | .int j=>f i j|_=>.stuck)
 |_=>.stuck
theorem qq{x y:V}{f:Int->Int->RV}{r:V×AH}(e:S4 x y f=.ok r):∃i j,x=.int i/\y=.int j/\f i j=.ok r:=by
 unfold S4 at e;split at e
 ·split at e
  ·exact⟨_,_,rfl,rfl,e⟩
  ·cases e
 ·cases e
noncomputable def i8(x:V)(f:Nat->RV):RV:=match x with
 | .ref a=>f a
 |_=>.stuck
theorem zI{x:V}{f:Nat->RV}{r:V×AH}(e:i8 x f=.ok r):∃a,x=.ref a/\f a=.ok r:=by
 unfold i8 at e;split at e
 ·exact⟨_,rfl,e⟩
 ·cases e
noncomputable def qDL:BOp->V->V->AH->RV
 | .add,x,y,h=>(match x with
  | .ref a=>i8 y λb=>(match qg h a,qg h b with
   |some xs,some ys=>if xs.length+ys.length<=lim then newL (xs++ys) h else .stuck
   |_,_=>(match qT h a,qT h b with
    |some xs,some ys=>if xs≠[]/\xs.length+ys.length<=lim then (if ys=[] then .ok (.ref a,h) else newT (xs++ys) h) else .stuck
    |_,_=>.stuck))
  |x=>S4 x y λi j=>.ok (.int (i+j),h))
 | .sub,x,y,h=>S4 x y λi j=>.ok (.int (i-j),h)
 | .mul,x,y,h=>(match x with
  | .ref a=>(match y with
   | .int k=>(match qg h a with
    |some xs=>if 0<=k/\xs.length*k.toNat<=lim/\k<1000000 then newL (List.replicate k.toNat xs).flatten h else .stuck
    |none=>.stuck)
   |_=>.stuck)
  |x=>S4 x y λi j=>if QU i||QU j||(mid i&&mid j) then .ok (.int (i*j),h) else .stuck)
 | .fdiv,x,y,h=>S4 x y λi j=>if 0<j/\(j<1073741824\/mid j=true) then .ok (.int (i / j),h) else if j<0/\mid j=true then .ok (.int (i.fdiv j),h) else .stuck
 | .mod,x,y,h=>S4 x y λi j=>if 0<j then .ok (.int (i % j),h) else if j<0 then .ok (.int (i.fmod j),h) else .stuck
 | .pow,x,y,h=>S4 x y λi j=>if 0<=j/\j<=1000/\i.natAbs<18446744073709551616 then .ok (.int (i ^ j.toNat),h) else .stuck
 | .band,x,y,h=>S4 x y λi j=>.ok (.int (PySem.Builtin.bitAnd i j),h)
noncomputable def qCC(x y:V)(f:Int->Int->Bool):Option Bool:=match x with
 | .int i=>(match y with | .int j=>some (f i j)|_=>none)
 |_=>none
theorem QZ{x y:V}{f:Int->Int->Bool}{r:Bool}(e:qCC x y f=some r):∃i j,x=.int i/\y=.int j/\f i j=r:=by
 unfold qCC at e;split at e
 ·split at e
  ·exact⟨_,_,rfl,rfl,Option.some.inj e⟩
  ·cases e
 ·cases e
noncomputable def qAk(y:V)(f:Nat->Option Bool):Option Bool:=match y with
 | .ref a=>f a
 |_=>none
theorem G7{y:V}{f:Nat->Option Bool}{r:Bool}(e:qAk y f=some r):∃a,y=.ref a/\f a=some r:=by
 unfold qAk at e;split at e
 ·exact⟨_,rfl,e⟩
 ·cases e
noncomputable def isC(x y:V)(f:Bool->Bool):Option Bool:=match y with
 | .non=>some (f (decide (x=.non)))
 | .bl d=>(match x with | .bl c=>some (f (c==d))|_=>none)
 |_=>none
theorem Y9{x y:V}{f:Bool->Bool}{r:Bool}(e:isC x y f=some r):(y=.non/\f (decide (x=.non))=r)\/∃c d,x=.bl c/\y=.bl d/\f (c==d)=r:=by
 unfold isC at e;split at e
 ·exact .inl ⟨rfl,Option.some.inj e⟩
 ·split at e
  ·exact .inr ⟨_,_,rfl,rfl,Option.some.inj e⟩
  ·cases e
 ·cases e
noncomputable def j0:COp->V->V->AH->Option Bool
 | .lt,x,y,_=>qCC x y λi j=>decide (i<j)
 | .le,x,y,_=>qCC x y λi j=>decide (i<=j)
 | .gt,x,y,_=>qCC x y λi j=>decide (j<i)
 | .ge,x,y,_=>qCC x y λi j=>decide (j<=i)
 | .eq,x,y,h=>eqD h 4 x y
 | .ne,x,y,h=>(eqD h 4 x y).map (!·)
 | .inn,x,y,h=>qAk y λa=>(match items h a with
  |some xs=>if flat x&&xs.all flat then some (xs.any λy=>_L.eqV y x) else none
  |none=>match zz h a with
   |some kvs=>(match x with | .int i=>some (Q0 kvs i)|_=>none)
   |none=>none)
 | .notin,x,y,h=>qAk y λa=>(match items h a with
  |some xs=>if flat x&&xs.all flat then some (!(xs.any λy=>_L.eqV y x)) else none
  |none=>match zz h a with
   |some kvs=>(match x with | .int i=>some (!Q0 kvs i)|_=>none)
   |none=>none)
 | .is,x,y,_=>isC x y id
 | .isnot,x,y,_=>isC x y (!·)
noncomputable def qB7(op:COp)(x y:V)(h:AH):RV:=match j0 op x y h with
 |some b=>.ok (.bl b,h)
 |none=>.stuck
noncomputable def zO:List V->Option (List Int)
 | []=>some []
 | .int i::r=>(zO r).map (i::·)
 |_::_=>none
noncomputable def jE:List V->Option (List Int)
 | []=>some []
 | .int i::r=>(jE r).map (i::·)
 | .bl b::r=>(jE r).map ((if b=true then 1 else 0)::·)
 |_::_=>none
noncomputable def jS(lo:Int)(n:Nat):List V:=(List.range n).map λ(i:Nat)=>V.int (lo+(i:Int))
noncomputable def uniq(is:List Int):List Int:=is.foldl PyProof.Rows.step_dedup []
noncomputable def y7(is:List Int):Nat:=(is.foldl PyProof.Rows.step_dedup []).length
noncomputable def ins(x:Int):List Int->List Int
 | []=>[x]
 |y::r=>if x<=y then x::y::r else y::ins x r
noncomputable def QJ:List Int->List Int
 | []=>[]
 |x::r=>ins x (QJ r)
theorem JF(x:Int):∀l,(ins x l).Perm (x::l)
 | []=>.refl _
 |y::r=>by
  unfold ins;split
  ·exact .refl _
  ·exact((JF x r).cons y).trans (.swap x y r)
theorem zR:∀l,(QJ l).Perm l
 | []=>.refl _
 |x::r=>(JF x _).trans ((zR r).cons x)
theorem qAG(x:Int):∀l:List Int,l.Pairwise (·<=·)->(ins x l).Pairwise (·<=·)
 | [],_=>List.pairwise_singleton _ _
 |y::r,h=>by
  obtain⟨h1,h2⟩:=vP.mp h;unfold ins;split
  ·rename_i q;refine vP.mpr ⟨λz hz=>?_,h⟩;rcases wP.mp hz with rfl|hz
   ·exact q
   ·exact Int.le_trans q (h1 z hz)
  ·rename_i q;refine vP.mpr ⟨λz hz=>?_,qAG x r h2⟩;rcases wP.mp ((JF x r).mem_iff.mp hz) with rfl|hz
   ·omega
   ·exact h1 z hz
theorem JT:∀l:List Int,(QJ l).Pairwise (·<=·)
 | []=>.nil
 |x::r=>qAG x _ (JT r)
theorem Zu:∀{a b:List Int},a.Pairwise (·<=·)->b.Pairwise (·<=·)->a.Perm b->a=b
 | [],b,_,_,p=>(List.Perm.eq_nil p.symm).symm
 |x::a,[],_,_,p=>absurd p.length_eq (by simp)
 |x::a,y::b,ha,hb,p=>by
  obtain⟨a1,a2⟩:=vP.mp ha;obtain⟨b1,b2⟩:=vP.mp hb;have e:x=y:=by
   have m1:x∈y::b:=p.mem_iff.mp (wN ..);have m2:y∈x::a:=p.mem_iff.mpr (wN ..);rcases wP.mp m1 with h|h
   ·exact h
   ·rcases wP.mp m2 with h' | h'
    ·exact h'.symm
    ·have:=a1 y h';have:=b1 x h;omega
  subst e;rw[Zu a2 b2 (List.Perm.cons_inv p)]
noncomputable def qB5:List Int->Option Int
 | []=>none
 |x::r=>match qB5 r with|some y=>some (if x<=y then y else x)|none=>some x
theorem U5:∀{l:List Int}{k:Int},qB5 l=some k->k∈l/\∀a∈l,a<=k
 | [],k,e=>by cases e
 |x::r,k,e=>by
  unfold qB5 at e;split at e
  ·rename_i y ey;obtain⟨h1,h2⟩:=U5 ey;cases e;split
   ·rename_i q;exact⟨wI _ h1,λa ha=>by rcases wP.mp ha with rfl|ha;exact q;exact h2 a ha⟩
   ·rename_i q;exact⟨wN ..,λa ha=>by rcases wP.mp ha with rfl|ha;exact Int.le_refl _;have:=h2 a ha;omega⟩
  ·rename_i ey;cases e;cases r with
   |nil=>exact⟨wN ..,λa ha=>by rw[wY.mp ha];exact Int.le_refl _⟩
   |cons z r=>unfold qB5 at ey;split at ey<;>cases ey
noncomputable def one(as:List V)(f:V->RV):RV:=match as with
 | [a]=>f a
 |_=>.stuck
theorem QI{as:List V}{f:V->RV}{r:V×AH}(e:one as f=.ok r):∃a,as=[a]/\f a=.ok r:=by
 unfold one at e;split at e
 ·exact⟨_,rfl,e⟩
 ·cases e
noncomputable def two(as:List V)(f:V->V->RV):RV:=match as with
 | [a,b]=>f a b
 |_=>.stuck
theorem two_inv{as:List V}{f:V->V->RV}{r:V×AH}(e:two as f=.ok r):∃a b,as=[a,b]/\f a b=.ok r:=by
 unfold two at e;split at e
 ·exact⟨_,_,rfl,e⟩
 ·cases e
noncomputable def qEn:BF->List V->AH->RV
 | .len,as,h=>one as λx=>i8 x λa=>(match items h a with|some xs=>.ok (.int xs.length,h)|none=>.stuck)
 | .sum,as,h=>one as λx=>i8 x λa=>(match qL h a with
  |some xs=>match jE xs with|some is=>.ok (.int is.sum,h)|none=>.stuck
  |none=>.stuck)
 | .max,as,h=>two as λx y=>S4 x y λi j=>.ok (.int (if j>i then j else i),h)
 | .min,as,h=>two as λx y=>S4 x y λi j=>.ok (.int (if j<i then j else i),h)
 | .list,as,h=>one as λx=>i8 x λa=>(match items h a with|some xs=>newL xs h|none=>.stuck)
 | .int,as,h=>one as λx=>(match x with | .int i=>.ok (.int i,h) | .bl b=>.ok (.int (if b then 1 else 0),h)|_=>.stuck)
 | .maxl,as,h=>one as λx=>i8 x λa=>(match qL h a with
  |some xs=>match (zO xs).bind qB5 with|some k=>.ok (.int k,h)|none=>.stuck
  |none=>.stuck)
 | .bits,as,h=>one as λx=>(match x with | .int i=>.ok (.int ((PySem.Builtin.Int.intBits i:Nat):Int),h)|_=>.stuck)
noncomputable def E.isGlob:E->Bool
 | .glob _=>true
 |_=>false
noncomputable def qBB(g:Bool)(h:AH)(a:Nat):Option (List V):=if g=true then qT h a else qL h a
noncomputable def L8(g:Bool)(p:Nat)(y:V)(h:AH):RV:=match qBB g h p with
 |some xs=>if (flat y&&xs.all flat)=true then (match xs.findIdx? (λz=>_L.eqV z y) with|some j=>.ok (.int j,h)|none=>.stuck) else .stuck
 |none=>.stuck
noncomputable def S3:Mt->Nat->List V->AH->RV
 | .clr,p,[],h=>match qg h p with|some _=>.ok (.non,h.set p (.lst false []))|none=>.stuck
 |_,_,_,_=>.stuck
noncomputable def zi(h:AH):V->Option String
 | .non=>some "NoneType"
 | .bl _=>some "bool"
 | .int _=>some "int"
 | .str _=>some "str"
 | .ref a=>match h[a]? with|some (.lst _ _)=>some "list" | some (.tup _)=>some "tuple" | some (.ob (.dct _))=>some "dict" | _=>none
 |_=>none
noncomputable def QW(t c:String):Bool:=t==c||(t=="bool"&&c=="int")
inductive Src|list(a:Nat)|tupl(a:Nat)|rng(lo:Int)(n:Nat)|zip(a b:Nat)
noncomputable def J0(h:AH):Src->Option Nat
 | .list a=>(qL h a).map List.length
 | .tupl a=>(qT h a).map List.length
 | .rng _ n=>some n
 | .zip a b=>match qL h a,qL h b with|some xs,some ys=>some (min xs.length ys.length)|_,_=>none
noncomputable def qj(h:AH)(i:Nat):Src->Option (V×AH)
 | .list a=>match qL h a with|some xs=>xs[i]?.map λx=>(x,h)|none=>none
 | .tupl a=>match qT h a with|some xs=>xs[i]?.map λx=>(x,h)|none=>none
 | .rng lo n=>if i<n then some (.int (lo+(i:Int)),h) else none
 | .zip a b=>match qL h a,qL h b with
  |some xs,some ys=>match xs[i]?,ys[i]? with|some x,some y=>some (.ref h.length,h++[.tup [x,y]])|_,_=>none
  |_,_=>none
noncomputable def jT(h:AH)(i:Nat):Src->Bool
 | .list a=>match qL h a with|some xs=>decide (xs.length<=i)|none=>false
 | .tupl a=>match qT h a with|some xs=>decide (xs.length<=i)|none=>false
 | .rng _ n=>decide (n<=i)
 | .zip a b=>match qL h a,qL h b with|some xs,some ys=>decide (xs.length<=i\/ys.length<=i)|_,_=>false
noncomputable def Zk:List Nat->List V->St->Option St
 | [],[],σ=>some σ
 |i::is,x::xs,σ=>Zk is xs (σ.set i (some x))
 |_,_,_=>none
noncomputable def store:Tg->V->St->AH->Option St
 | .name i,v,σ,_=>some (σ.set i (some v))
 | .tup is,.ref a,σ,h=>match qT h a with|some xs=>Zk is xs σ | none=>none
 | .tup _,_,_,_=>none
noncomputable def B5(s:Src)(g:Tg)(c:St->AH->Res (Bool×AH))(e:St->AH->RV)(D:Nat):Nat->Nat->List V->St->AH->RV
 | 0,i,_,_,h=>if jT h i s then .ok (.ref D,h) else .stuck
 |n+1,i,ys,σ,h=>match qj h i s with
  |some (x,h1)=>match store g x σ h1 with
   |some σ1=>(c σ1 h1).bind λ(b,h2)=>
    if b then (e σ1 h2).bind λ(y,h3)=>if h3[D]?=some (.lst false ys)/\ys.length<lim then B5 s g c e D n (i+1) (ys++[y]) σ1 (h3.set D (.lst false (ys++[y]))) else .stuck
    else if h2[D]?=some (.lst false ys) then B5 s g c e D n (i+1) ys σ1 h2 else .stuck
   |none=>.stuck
  |none=>.stuck
noncomputable def asB(r:RV):Res (Bool×AH):=r.bind λ(v,h)=>match v with | .bl b=>.ok (b,h)|_=>.stuck
section
variable (F:Nat->List V->AH->RV)
mutual
noncomputable def ev:E->St->AH->RV
 | .var i=>λσ h=>match σ[i]? with|some (some v)=>.ok (v,h)|_=>.stuck
 | .cst v=>λ_ h=>.ok (v,h)
 | .glob g=>λ_ h=>.ok (.ref g,h)
 | .bin op a b=>λσ h=>(ev a σ h).bind λ(x,h1)=>(ev b σ h1).bind λ(y,h2)=>qDL op x y h2
 | .neg a=>λσ h=>(ev a σ h).bind λ(x,h1)=>match x with | .int i=>.ok (.int (-i),h1)|_=>.stuck
 | .cmp op a b=>λσ h=>(ev a σ h).bind λ(x,h1)=>(ev b σ h1).bind λ(y,h2)=>qB7 op x y h2
 | .cmp2 o1 o2 a b c=>λσ h=>(ev a σ h).bind λ(x,h1)=>(ev b σ h1).bind λ(y,h2)=>match j0 o1 x y h2 with
  |some true=>(ev c σ h2).bind λ(z,h3)=>qB7 o2 y z h3
  |some false=>.ok (.bl false,h2)
  |none=>.stuck
 | .and a b=>λσ h=>(asB (ev a σ h)).bind λ(x,h1)=>if x then ev b σ h1 else .ok (.bl false,h1)
 | .or a b=>λσ h=>(asB (ev a σ h)).bind λ(x,h1)=>if x then .ok (.bl true,h1) else ev b σ h1
 | .not a=>λσ h=>(asB (ev a σ h)).bind λ(x,h1)=>.ok (.bl (!x),h1)
 | .ite c a b=>λσ h=>(asB (ev c σ h)).bind λ(x,h1)=>if x then ev a σ h1 else ev b σ h1
 | .call f as=>λσ h=>(evs as σ h).bind λ(xs,h1)=>(F f xs h1).nx
 | .blt f as=>λσ h=>(evs as σ h).bind λ(xs,h1)=>qEn f xs h1
 | .isi a ts=>λσ h=>(ev a σ h).bind λ(x,h1)=>match zi h1 x with|some t=>.ok (.bl (ts.any (QW t)),h1)|none=>.stuck
 | .idx a b=>λσ h=>(ev a σ h).bind λ(x,h1)=>(ev b σ h1).bind λ(y,h2)=>match x,y with
  | .ref p,.int i=>match items h2 p with
   |some xs=>match (ixN xs.length i).bind λj=>xs[j]? with|some v=>.ok (v,h2)|none=>.stuck
   |none=>.stuck
  |_,_=>.stuck
 | .index a b=>λσ h=>(ev a σ h).bind λ(x,h1)=>i8 x λp=>(match qBB a.isGlob h1 p with
  |some _=>(ev b σ h1).bind λ(y,h2)=>L8 a.isGlob p y h2
  |none=>.stuck)
 | .sl a lo hi=>λσ h=>(ev a σ h).bind λ(x,h1)=>(evs lo σ h1).bind λ(l,h2)=>(evs hi σ h2).bind λ(u,h3)=>
  match x,zO l,zO u with
  | .ref p,some l,some u=>match qL h3 p with
   |some xs=>newL (cut xs l.head? u.head?) h3
   |none=>match qT h3 p with
    |some xs=>if _H.sIx xs.length 0 l.head?=0/\_H.sIx xs.length xs.length u.head?=xs.length then .stuck else newT (cut xs l.head? u.head?) h3
    |none=>.stuck
  |_,_,_=>.stuck
 | .lst as=>λσ h=>(evs as σ h).bind λ(xs,h1)=>if xs.length<=lim then newL xs h1 else .stuck
 | .tup as=>λσ h=>(evs as σ h).bind λ(xs,h1)=>if xs.length<=lim then newT xs h1 else .stuck
 | .comp it src g c e=>λσ h=>(evi it σ h).bind λ(s,h1)=>match J0 (h1++[.lst false []]) s with
  |some n=>B5 s g (evc c) (ev e) h1.length n 0 [] (_L.inner src σ) (h1++[.lst false []])
  |none=>.stuck
 | .app a b=>λσ h=>(ev a σ h).bind λ(x,h1)=>match x with
  | .ref p=>(match qL h1 p with
   |some _=>(ev b σ h1).bind λ(y,h2)=>match qg h2 p with
    |some xs=>if xs.length<lim then .ok (.non,h2.set p (.lst false (xs++[y]))) else .stuck
    |none=>.stuck
   |none=>.stuck)
  |_=>.stuck
 | .sset a=>λσ h=>(ev a σ h).bind λ(x,h1)=>match x with | .ref p=>(match qL h1 p with|some ys=>(match zO ys with|some is=>if is.length<1000/\(uniq is).length<64 then newL ((QJ (uniq is)).map V.int) h1 else .stuck|none=>.stuck)|none=>.stuck)|_=>.stuck
 | .nset a=>λσ h=>(ev a σ h).bind λ(x,h1)=>match x with | .ref p=>(match qL h1 p with|some ys=>(match zO ys with|some is=>if is.length<1000 then .ok (.int ((y7 is:Nat):Int),h1) else .stuck|none=>.stuck)|none=>.stuck)|_=>.stuck
 | .dix a b=>λσ h=>(ev a σ h).bind λ(x,h1)=>(ev b σ h1).bind λ(y,h2)=>i8 x λp=>(match y with
  | .int i=>(match zz h2 p with|some kvs=>(match m4 kvs i with|some v=>.ok (v,h2)|none=>.stuck)|none=>.stuck)
  |_=>.stuck)
 | .lrng a=>λσ h=>(ev a σ h).bind λ(x,h1)=>match x with | .int j=>if -1000000<=j/\j<=100000 then newL (jS 0 j.toNat) h1 else .stuck|_=>.stuck
 | .dnew=>λ_ h=>.ok (.ref h.length,h++[.ob (.dct [])])
 | .meth m a as=>λσ h=>(ev a σ h).bind λ(x,h1)=>match x with
  | .ref p=>(match qL h1 p with
   |some _=>(evs as σ h1).bind λ(ys,h2)=>S3 m p ys h2
   |none=>.stuck)
  |_=>.stuck
noncomputable def evs:Es->St->AH->Res (List V×AH)
 | .nil=>λ_ h=>.ok ([],h)
 | .cons a as=>λσ h=>(ev a σ h).bind λ(x,h1)=>(evs as σ h1).bind λ(xs,h2)=>.ok (x::xs,h2)
noncomputable def evc:Es->St->AH->Res (Bool×AH)
 | .nil=>λ_ h=>.ok (true,h)
 | .cons a _=>λσ h=>asB (ev a σ h)
noncomputable def evi:Itr->St->AH->Res (Src×AH)
 | .list a=>λσ h=>(ev a σ h).bind λ(x,h1)=>match x with | .ref p=>(match h1[p]? with|some (.lst _ _)=>.ok (.list p,h1)|some (.tup _)=>.ok (.tupl p,h1)|_=>.stuck)|_=>.stuck
 | .rng1 a=>λσ h=>(ev a σ h).bind λ(x,h1)=>match x with | .int j=>if -1000000<=j/\j<=1000000 then .ok (.rng 0 j.toNat,h1) else .stuck|_=>.stuck
 | .rng2 a b=>λσ h=>(ev a σ h).bind λ(x,h1)=>(ev b σ h1).bind λ(y,h2)=>match x,y with
  | .int i,.int j=>if (-1000000<=i/\i<=1000000)/\-1000000<=j/\j<=1000000 then .ok (.rng i (j-i).toNat,h2) else .stuck
  |_,_=>.stuck
 | .zip a b=>λσ h=>(ev a σ h).bind λ(x,h1)=>(ev b σ h1).bind λ(y,h2)=>match x,y with
  | .ref p,.ref q=>match qL h2 p,qL h2 q with|some _,some _=>.ok (.zip p q,h2)|_,_=>.stuck
  |_,_=>.stuck
end
inductive Out|nx(σ:St)|rt(v:V)|bk(σ:St)|ct(σ:St)
noncomputable abbrev RS:=Res (Out×AH)
noncomputable def B7(s:Src)(g:Tg)(b:St->AH->RS):Nat->Nat->St->AH->RS
 | 0,i,σ,h=>if jT h i s then .ok (.nx σ,h) else .stuck
 |n+1,i,σ,h=>match qj h i s with
  |some (x,h1)=>match store g x σ h1 with
   |some σ1=>(b σ1 h1).bind λ(o,h2)=>match o with
    | .nx σ2=>B7 s g b n (i+1) σ2 h2
    | .ct σ2=>B7 s g b n (i+1) σ2 h2
    | .bk σ2=>.ok (.nx σ2,h2)
    | .rt v=>.ok (.rt v,h2)
   |none=>.stuck
  |none=>.stuck
noncomputable def qFY(F:Nat->List V->AH->RV)(u:Nat)(k v:E)(σ:St)(h:AH):RS:=(ev F v σ h).bind λ(x,h1)=>(ev F (.var u) σ h1).bind λ(p,h2)=>(ev F k σ h2).bind λ(k,h3)=>match p,k with
  | .ref a,.int k=>match qg h3 a with
   |some xs=>match ixN xs.length k with|some j=>.ok (.nx σ,h3.set a (.lst false (xs.set j x)))|none=>.stuck
   |none=>match zz h3 a with
    |some kvs=>if kvs.length<lim then .ok (.nx σ,h3.set a (.ob (.dct (z9 kvs k x)))) else .stuck
    |none=>.stuck
  |_,_=>.stuck
noncomputable def qEt(r:RS)(k:St->AH->RS):RS:=r.bind λ(o,h1)=>match o with
  | .nx σ1=>k σ1 h1
  |o=>.ok (o,h1)
noncomputable def B3(F:Nat->List V->AH->RV)(u:Nat)(k v:E)(σ:St)(h:AH):RS:=qEt (qFY F u k v σ h) λσ h=>.ok (.nx σ,h)
mutual
noncomputable def ex:S->St->AH->RS
 | .asg g e=>λσ h=>(ev F e σ h).bind λ(x,h1)=>match store g x σ h1 with|some σ1=>.ok (.nx σ1,h1)|none=>.stuck
 | .put o i v=>λσ h=>(ev F v σ h).bind λ(x,h1)=>(ev F o σ h1).bind λ(p,h2)=>(ev F i σ h2).bind λ(k,h3)=>match p,k with
  | .ref a,.int k=>match qg h3 a with
   |some xs=>match ixN xs.length k with|some j=>.ok (.nx σ,h3.set a (.lst false (xs.set j x)))|none=>.stuck
   |none=>match zz h3 a with
    |some kvs=>if kvs.length<lim then .ok (.nx σ,h3.set a (.ob (.dct (z9 kvs k x)))) else .stuck
    |none=>.stuck
  |_,_=>.stuck
 | .expr e=>λσ h=>(ev F e σ h).bind λ(_,h1)=>.ok (.nx σ,h1)
 | .ret e=>λσ h=>(ev F e σ h).bind λ(x,h1)=>.ok (.rt x,h1)
 | .ifs c t u=>λσ h=>(asB (ev F c σ h)).bind λ(x,h1)=>if x then exs t σ h1 else exs u σ h1
 | .for_ g it b=>λσ h=>(evi F it σ h).bind λ(s,h1)=>match J0 h1 s with
  |some n=>B7 s g (exs b) n 0 σ h1
  |none=>.stuck
 | .stop=>λ_ _=>.stuck
 | .dlp u x e k v=>λσ h=>(evi F (.list e) (σ.set u (some (.ref h.length))) (h++[.ob (.dct [])])).bind λ(s,h1)=>match J0 h1 s with
  |some n=>B7 s (.name x) (B3 F u k v) n 0 (σ.set u (some (.ref h.length))) h1
  |none=>.stuck
noncomputable def exs:Ss->St->AH->RS
 | .nil=>λσ h=>.ok (.nx σ,h)
 | .cons s r=>λσ h=>(ex s σ h).bind λ(o,h1)=>match o with
  | .nx σ1=>exs r σ1 h1
  |o=>.ok (o,h1)
end
end
theorem qBT(F:Nat->List V->AH->RV)(u x:Nat)(e k v:E)(r:Ss)(σ:St)(h:AH):exs F (.cons (.asg (.name u) .dnew) (.cons (.for_ (.name x) (.list e) (.cons (.put (.var u) k v) .nil)) r)) σ h=exs F (.cons (.dlp u x e k v) r) σ h:=rfl
structure Fn where
 npar:Nat
 nslot:Nat
 body:Ss
noncomputable def Fk(tb:List Fn):Nat->Nat->List V->AH->RV
 | 0,_,_,_=>.stuck
 |k+1,f,vs,h=>match tb[f]? with
  |some d=>if vs.length=d.npar/\d.npar<=d.nslot then (exs (Fk tb k) d.body (vs.map some++List.replicate (d.nslot-d.npar) none) h).bind λ(o,h1)=>match o with
    | .nx _=>.ok (.non,h1)
    | .rt v=>.ok (v,h1)
    |_=>.stuck
   else .stuck
  |none=>.stuck
open PySem PySem.Spec PyProof.Rows
open _L (Hp HO Cx PE PT PA PS PSs TE TT TA TS VK upd qD qE SqL SqT Qk)
def rv(φ:List Addr):V->V->Prop
 | .ref i,.ref a=>φ[i]?=some a
 | .non,.non=>True
 | .bl b,.bl c=>b=c
 | .int i,.int j=>i=j
 | .str x,.str y=>x=y
 |_,_=>False
abbrev rvs(φ:List Addr):List V->List V->Prop:=Paired (rv φ)
def ropt(φ:List Addr):Option V->Option V->Prop
 |some v,oc=>∃w,oc=some w/\rv φ v w
 |none,_=>True
abbrev rst(φ:List Addr):St->St->Prop:=Paired (ropt φ)
def Ext(φ φ':List Addr):Prop:=∃r,φ'=φ++r
theorem Ext.refl(φ:List Addr):Ext φ φ:=⟨[],by simp⟩
theorem Ext.trans{a b c:List Addr}(h:Ext a b)(g:Ext b c):Ext a c:=by
 obtain⟨r,rfl⟩:=h;obtain⟨q,rfl⟩:=g;exact⟨r++q,by simp⟩
theorem Ext.get{φ φ':List Addr}(x:Ext φ φ'){i:Nat}{a:Addr}(h:φ[i]?=some a):φ'[i]?=some a:=by
 obtain⟨r,rfl⟩:=x;rw[wC (wB.mp h).1];exact h
theorem rv.mono{φ φ':List Addr}(x:Ext φ φ'):∀{v w:V},rv φ v w->rv φ' v w
 | .ref i,.ref a,h=>x.get h
 | .non,.non,h=>h
 | .bl _,.bl _,h=>h
 | .int _,.int _,h=>h
 | .str _,.str _,h=>h
 | .byt _,_,h=>by cases h
 | .flt _,_,h=>by cases h
 | .ty _,_,h=>by cases h
theorem rvs.mono{φ φ':List Addr}(x:Ext φ φ'){vs ws:List V}(h:rvs φ vs ws):rvs φ' vs ws:=_L.Paired.mapP h λ_ _ r=>rv.mono x r
theorem ropt.mono{φ φ':List Addr}(x:Ext φ φ'):∀{v w:Option V},ropt φ v w->ropt φ' v w
 |some v,oc,h=>by obtain⟨w,e,r⟩:=h;exact⟨w,e,rv.mono x r⟩
 |none,_,_=>trivial
theorem rst.mono{φ φ':List Addr}(x:Ext φ φ'){σ τ:St}(h:rst φ σ τ):rst φ' σ τ:=_L.Paired.mapP h λ_ _ r=>ropt.mono x r
theorem qK{α β:Type}{R:α->β->Prop}:∀{xs:List α}{ys:List β}{i:Nat}{x:α},Paired R xs ys->xs[i]?=some x->∃y,ys[i]?=some y/\R x y
 |_,_,_,_,.nil,e=>by simp at e
 |_,_,0,_,.cons r _,e=>by simp at e;subst e;exact⟨_,rfl,r⟩
 |_,_,i+1,x,.cons _ t,e=>by
  obtain⟨u,h1,h2⟩:=qK (i:=i) (x:=x) t (by simpa using e);exact⟨u,by simpa using h1,h2⟩
theorem zM{α β:Type}{R:α->β->Prop}{x:α}{u:β}(r:R x u):∀{xs:List α}{us:List β}(i:Nat),Paired R xs us->Paired R (xs.set i x) (us.set i u)
 |_,_,_,.nil=>.nil
 |_,_,0,.cons _ t=>.cons r t
 |_,_,i+1,.cons q t=>.cons q (zM r i t)
theorem qN{α β:Type}{R:α->β->Prop}:∀{xs ys:List α}{us ws:List β},Paired R xs us->Paired R ys ws->Paired R (xs++ys) (us++ws)
 |_,_,_,_,.nil,s=>s
 |_,_,_,_,.cons r t,s=>.cons r (qN t s)
theorem zW{α β:Type}{R:α->β->Prop}:∀{xs:List α}{us:List β}(n:Nat),Paired R xs us->Paired R (xs.take n) (us.take n)
 |_,_,0,_=>.nil
 |_,_,_+1,.nil=>.nil
 |_,_,n+1,.cons r t=>.cons r (zW n t)
theorem Qy{α β:Type}{R:α->β->Prop}:∀{xs:List α}{us:List β}(n:Nat),Paired R xs us->Paired R (xs.drop n) (us.drop n)
 |_,_,0,r=>r
 |_,_,_+1,.nil=>.nil
 |_,_,n+1,.cons _ t=>Qy n t
theorem Zl{α β:Type}{R:α->β->Prop}{xs:List α}{us:List β}(h:Paired R xs us):∀k:Nat,Paired R (List.replicate k xs).flatten (List.replicate k us).flatten
 | 0=>.nil
 |k+1=>by
  rw[List.replicate_succ,List.replicate_succ,List.flatten_cons,List.flatten_cons];exact qN h (Zl h k)
noncomputable def kk(p:Int×V):_L.Key×V:=(.inl p.1,p.2)
def RK(φ:List Addr)(kvs ks:List (Int×V)):Prop:=Paired (λp q=>q.1=p.1/\rv φ p.2 q.2) kvs ks
theorem RK.mono{φ φ':List Addr}{kvs ks:List (Int×V)}(x:Ext φ φ')(r:RK φ kvs ks):RK φ' kvs ks:=_L.Paired.mapP r λ_ _ z=>⟨z.1,rv.mono x z.2⟩
theorem RK.has{φ:List Addr}(i:Int):∀{kvs ks:List (Int×V)},RK φ kvs ks->Q0 ks i=Q0 kvs i
 |_,_,.nil=>rfl
 |_,_,.cons a r=>by
  show (decide (_=i)||Q0 _ i)=(decide (_=i)||Q0 _ i);rw[a.1,RK.has i r]
theorem RK.get{φ:List Addr}{i:Int}{w:V}:∀{kvs ks:List (Int×V)},RK φ kvs ks->m4 kvs i=some w->∃w',m4 ks i=some w'/\rv φ w w'
 |_,_,.nil,e=>by cases e
 |p::kvs,q::ks,.cons a r,e=>by
  unfold m4 at e ⊢;rw[List.find?_cons]at e ⊢;rw[a.1];by_cases h:p.1=i
  ·rw[uG h]at e ⊢;cases e;exact⟨q.2,rfl,a.2⟩
  ·rw[uF h]at e ⊢;exact RK.get r e
theorem RK.map{φ:List Addr}{k:Int}{v w:V}(h:rv φ v w):∀{kvs ks:List (Int×V)},RK φ kvs ks->RK φ (kvs.map λp=>if p.1=k then (p.1,v) else p) (ks.map λp=>if p.1=k then (p.1,w) else p)
 |_,_,.nil=>.nil
 |p::kvs,q::ks,.cons a r=>by
  refine .cons ?_ (RK.map h r);dsimp only;by_cases z:p.1=k
  ·rw[if_pos z,if_pos (a.1.trans z)];exact⟨a.1,h⟩
  ·rw[if_neg z,if_neg (λy=>z (a.1.symm.trans y))];exact a
theorem RK.put{φ:List Addr}{kvs ks:List (Int×V)}{k:Int}{v w:V}(r:RK φ kvs ks)(h:rv φ v w):RK φ (z9 kvs k v) (z9 ks k w):=by
 unfold z9;rw[RK.has k r];split
 ·exact RK.map h r
 ·exact qN r (.cons ⟨rfl,h⟩ .nil)
theorem RK.len{φ:List Addr}{kvs ks:List (Int×V)}(r:RK φ kvs ks):ks.length=kvs.length:=(Paired.length r).symm
theorem RK.zip{φ:List Addr}:∀(is:List Int){xs ys:List V},rvs φ xs ys->RK φ (is.zip xs) (is.zip ys)
 | [],_,_,_=>.nil
 |_::_,_,_,.nil=>.nil
 |_::is,_,_,.cons a r=>.cons ⟨rfl,a⟩ (RK.zip is r)
noncomputable def O.mu:O->Bool
 | .lst false _=>true | .ob (.dct _)=>true|_=>false
def exP(a C:Addr):Heap->Prop:=λh=>∃o,h.get? a=some o/\o.cls=.ref C
def ro(K:PySem.W.Frag)(φ:List Addr)(H:Hp)(a:Addr):O->Prop
 | .lst false xs=>∃ys,H a=some (.lst ys)/\rvs φ xs ys
 | .lst true xs=>∃ys,((∃o,H a=some (.frz o (.lst ys)))\/SqL K (λ_=>none) a ys)/\rvs φ xs ys
 | .tup xs=>∃ys,SqT K H a ys/\rvs φ xs ys
 | .ob (.dct kvs)=>∃ks,H a=some (.dK (ks.map kk))/\RK φ kvs ks
 | .ob (.exn x)=>∃C,PySem.W.nsIn K mainGlobals x=some (some (.ref C))/\H a=some (.ext (exP a C))
structure Rl(K:PySem.W.Frag)(G:List Addr)(φ:List Addr)(h:AH)(H:Hp):Prop where
 len:φ.length=h.length
 glob:Ext G φ
 obj:∀(i:Nat) o a,h[i]?=some o->φ[i]?=some a->ro K φ H a o
 inj:∀(i j:Nat) x y a,x.mu=true->y.mu=true->h[i]?=some x->h[j]?=some y->φ[i]?=some a->φ[j]?=some a->i=j
section
variable{K:PySem.W.Frag}{G φ φ':List Addr}{h:AH}{H H':Hp}{a b p:Addr}
theorem j5{xs:List V}(s:Qk H H')(q:SqT K H a xs):SqT K H' a xs:=by
 rcases q with(h|⟨o,h⟩)|h
 ·exact .inl (.inl (s _ _ h))
 ·exact .inl (.inr ⟨o,s _ _ h⟩)
 ·exact .inr h
theorem k9{xs:List V}(q:SqL K (λ_=>none) a xs):SqL K H a xs:=by
 rcases q with(h|⟨o,h⟩)|h
 ·cases h
 ·cases h
 ·exact .inr h
theorem jl{o:HO}(hp:H p=none):Qk H (upd H p o):=λb u e=>by rw[qE (_L.ne_of_none e hp)];exact e
theorem ro.keep{o:O}(x:Ext φ φ')(s:Qk H H')(r:ro K φ H a o):ro K φ' H' a o:=by
 match o,r with
 | .lst false xs,⟨ys,e,r⟩=>exact⟨ys,s _ _ e,rvs.mono x r⟩
 | .lst true xs,⟨ys,.inl ⟨o,e⟩,r⟩=>exact⟨ys,.inl ⟨o,s _ _ e⟩,rvs.mono x r⟩
 | .lst true xs,⟨ys,.inr e,r⟩=>exact⟨ys,.inr e,rvs.mono x r⟩
 | .tup xs,⟨ys,e,r⟩=>exact⟨ys,j5 s e,rvs.mono x r⟩
 | .ob (.dct _),⟨ks,e,r⟩=>exact⟨ks,s _ _ e,RK.mono x r⟩
 | .ob (.exn _),⟨C,e1,e2⟩=>exact⟨C,e1,s _ _ e2⟩
def Wr(w:HO):Prop:=(∃zs,w=.lst zs)\/∃ks,w=.dK ks
theorem ro.wr{o:O}(m:o.mu=true)(r:ro K φ H a o):∃w,H a=some w/\Wr w:=by
 match o,m,r with
 | .lst false xs,_,⟨ys,e,r⟩=>exact⟨_,e,.inl ⟨_,rfl⟩⟩
 | .ob (.dct _),_,⟨_,e,_⟩=>exact⟨_,e,.inr ⟨_,rfl⟩⟩
theorem Wr.ne{w v:HO}(h:Wr w)(e:H a=some v)(hb:H b=some w)(h1:∀zs,v≠.lst zs)(h2:∀ks,v≠.dK ks):a≠b:=λz=>by
 subst z;rw[e]at hb;cases hb;rcases h with⟨zs,rfl⟩|⟨ks,rfl⟩
 ·exact h1 _ rfl
 ·exact h2 _ rfl
theorem ro.other{o:O}{w w':HO}(hw:Wr w)(hb:H b=some w)(hne:o.mu=true->a≠b)(r:ro K φ H a o):ro K φ (upd H b w') a o:=by
 match o,r with
 | .lst false xs,⟨ys,e,r⟩=>exact⟨ys,by rw[qE (hne rfl)];exact e,r⟩
 | .lst true xs,⟨ys,.inl ⟨o,e⟩,r⟩=>exact⟨ys,.inl ⟨o,by rw[qE (hw.ne e hb (λ_ z=>by cases z) (λ_ z=>by cases z))];exact e⟩,r⟩
 | .lst true xs,⟨ys,.inr e,r⟩=>exact⟨ys,.inr e,r⟩
 | .tup xs,⟨ys,e,r⟩=>
  refine⟨ys,?_,r⟩;rcases e with(h|⟨o,h⟩)|h
  ·exact .inl (.inl (by rw[qE (hw.ne h hb (λ_ z=>by cases z) (λ_ z=>by cases z))];exact h))
  ·exact .inl (.inr ⟨o,by rw[qE (hw.ne h hb (λ_ z=>by cases z) (λ_ z=>by cases z))];exact h⟩)
  ·exact .inr h
 | .ob (.dct _),⟨ks,e,r⟩=>exact⟨ks,by rw[qE (hne rfl)];exact e,r⟩
 | .ob (.exn _),⟨C,e1,e2⟩=>exact⟨C,e1,by rw[qE (hw.ne e2 hb (λ_ z=>by cases z) (λ_ z=>by cases z))];exact e2⟩
theorem Rl.at(R:Rl K G φ h H){i:Nat}{o:O}(e:h[i]?=some o):∃a,φ[i]?=some a/\ro K φ H a o:=by
 have hi:i<φ.length:=by rw[R.len];exact(wB.mp e).1
 exact⟨φ[i],wD hi,R.obj i o _ e (wD hi)⟩
theorem Rl.new(R:Rl K G φ h H)(hp:H p=none){o:O}{ob:HO}(n:ro K (φ++[p]) (upd H p ob) p o):Rl K G (φ++[p]) (h++[o]) (upd H p ob):=by
 have x:Ext φ (φ++[p]):=⟨[p],rfl⟩
 refine⟨by simp[R.len],R.glob.trans x,λi u a e1 e2=>?_,λi j xs ys a m1 m2 e1 e2 e3 e4=>?_⟩
 ·by_cases hi:i<h.length
  ·rw[wC hi]at e1;rw[wC (by rw[R.len];exact hi)]at e2;exact(R.obj i u a e1 e2).keep x (jl hp)
  ·have hi':i=h.length:=by
    have:=(wB.mp e1).1;simp at this;omega
   subst hi';simp at e1;rw[<-R.len]at e2;simp at e2;subst e1 e2;exact n
 ·have lt:∀{k:Nat}{z:O},(h++[o])[k]?=some z->(h[k]?=some z/\k<h.length)\/k=h.length:=λ{k zs} e=>by
   by_cases hk:k<h.length
   ·rw[wC hk]at e;exact .inl ⟨e,hk⟩
   ·have:=(wB.mp e).1;simp at this;exact .inr (by omega)
  have old:∀{k:Nat}{b:Addr},k<h.length->(φ++[p])[k]?=some b->φ[k]?=some b:=λ{k b} hk e=>by
   rwa [wC (by rw[R.len];exact hk)]at e
  have newA:∀{b:Addr},(φ++[p])[h.length]?=some b->b=p:=λ{b} e=>by
   rw[<-R.len]at e;simp at e;exact e.symm
  rcases lt e1 with⟨e1,h1⟩|rfl<;>rcases lt e2 with⟨e2,h2⟩|rfl
  ·exact R.inj i j xs ys a m1 m2 e1 e2 (old h1 e3) (old h2 e4)
  ·have ea:=newA e4;subst ea;obtain⟨w,hz,_⟩:=(R.obj i _ a e1 (old h1 e3)).wr m1;rw[hp]at hz;cases hz
  ·have ea:=newA e3;subst ea;obtain⟨w,hz,_⟩:=(R.obj j _ a e2 (old h2 e4)).wr m2;rw[hp]at hz;cases hz
  ·rfl
theorem Rl.more(R:Rl K G φ h H)(hp:H p=none){ob:HO}:Rl K G φ h (upd H p ob):=
 ⟨R.len,R.glob,λi u a e1 e2=>(R.obj i u a e1 e2).keep (Ext.refl _) (jl hp),R.inj⟩
theorem Rl.exn(R:Rl K G φ h H){i:Nat}{x:Str}(e:qDS h i=some x):∃a C,φ[i]?=some a/\PySem.W.nsIn K mainGlobals x=some (some (.ref C))/\H a=some (.ext (exP a C)):=by
 unfold qDS at e;split at e
 ·rename_i c q;cases e;obtain⟨a,ea,C,r1,r2⟩:=R.at q;exact⟨a,C,ea,r1,r2⟩
 ·cases e
theorem Rl.newL(R:Rl K G φ h H)(hp:H p=none){xs ys:List V}(r:rvs φ xs ys):Rl K G (φ++[p]) (h++[.lst false xs]) (upd H p (.lst ys)):=
 R.new hp ⟨ys,qD,rvs.mono ⟨[p],rfl⟩ r⟩
theorem Rl.newT(R:Rl K G φ h H)(hp:H p=none){xs ys:List V}(r:rvs φ xs ys):Rl K G (φ++[p]) (h++[.tup xs]) (upd H p (.tup ys)):=
 R.new hp ⟨ys,.inl (.inl qD),rvs.mono ⟨[p],rfl⟩ r⟩
theorem Rl.lastRef(R:Rl K G φ h H):(φ++[p])[h.length]?=some p:=by rw[<-R.len];simp
theorem Rl.write(R:Rl K G φ h H){i:Nat}{x y:O}{w':HO}(mx:x.mu=true)(my:y.mu=true)(e:h[i]?=some x)(ea:φ[i]?=some a)(n:ro K φ (upd H a w') a y):Rl K G φ (h.set i y) (upd H a w'):=by
 have hi:=(wB.mp e).1;obtain⟨w,hw,ww⟩:=(R.obj i _ a e ea).wr mx;have lk:∀{k:Nat}{z:O},z.mu=true->(h.set i y)[k]?=some z->∃z',z'.mu=true/\h[k]?=some z':=λ{k zs} m q=>by
  by_cases hk:k=i
  ·subst hk;exact⟨x,mx,e⟩
  ·rw[wV (Ne.symm hk)]at q;exact⟨zs,m,q⟩
 refine⟨by simp[R.len],R.glob,λk u b e1 e2=>?_,λk l us vs b m1 m2 e1 e2 e3 e4=>?_⟩
 ·by_cases hk:k=i
  ·subst hk;rw[wZ hi]at e1;rw[ea]at e2;cases e1;cases e2;exact n
  ·rw[wV (Ne.symm hk)]at e1;refine(R.obj k u b e1 e2).other ww hw λmu hb=>?_;subst hb;exact hk (R.inj k i u x b mu mx e1 e e2 ea)
 ·obtain⟨z1,n1,q1⟩:=lk m1 e1;obtain⟨z2,n2,q2⟩:=lk m2 e2;exact R.inj k l z1 z2 b n1 n2 q1 q2 e3 e4
theorem Rl.set(R:Rl K G φ h H){i:Nat}{xs ys zs:List V}(e:h[i]?=some (.lst false xs))(ea:φ[i]?=some a)(r:rvs φ ys zs):Rl K G φ (h.set i (.lst false ys)) (upd H a (.lst zs)):=
 R.write rfl rfl e ea ⟨zs,qD,r⟩
theorem Rl.dct(R:Rl K G φ h H){i:Nat}{kvs:List (Int×V)}(e:zz h i=some kvs):∃a ks,φ[i]?=some a/\h[i]?=some (.ob (.dct kvs))/\H a=some (.dK (ks.map kk))/\RK φ kvs ks:=by
 unfold zz at e;split at e
 ·rename_i zs q;cases e;obtain⟨a,ea,ks,r,rk⟩:=R.at q;exact⟨a,ks,ea,q,r,rk⟩
 ·cases e
theorem Rl.lst(R:Rl K G φ h H){i:Nat}{xs:List V}(e:qL h i=some xs):∃a ys,φ[i]?=some a/\SqL K H a ys/\rvs φ xs ys:=by
 unfold qL at e;split at e
 ·rename_i fz zs q;cases e;obtain⟨a,ea,r⟩:=R.at q;cases fz with
  |false=>obtain⟨ys,e,r⟩:=r;exact⟨a,ys,ea,.inl (.inl e),r⟩
  |true=>
   obtain⟨ys,e,r⟩:=r;rcases e with⟨o,e⟩|e
   ·exact⟨a,ys,ea,.inl (.inr ⟨o,e⟩),r⟩
   ·exact⟨a,ys,ea,k9 e,r⟩
 ·cases e
theorem Rl.tup(R:Rl K G φ h H){i:Nat}{xs:List V}(e:qT h i=some xs):∃a ys,φ[i]?=some a/\SqT K H a ys/\rvs φ xs ys:=by
 unfold qT at e;split at e
 ·rename_i zs q;cases e;obtain⟨a,ea,ys,e,r⟩:=R.at q;exact⟨a,ys,ea,e,r⟩
 ·cases e
theorem Rl.mut(R:Rl K G φ h H){i:Nat}{xs:List V}(e:qg h i=some xs):h[i]?=some (.lst false xs)/\∃a ys,φ[i]?=some a/\H a=some (.lst ys)/\rvs φ xs ys:=by
 unfold qg at e;split at e
 ·rename_i zs q;cases e;obtain⟨a,ea,ys,e,r⟩:=R.at q;exact⟨q,a,ys,ea,e,r⟩
 ·cases e
theorem Rl.its(R:Rl K G φ h H){i:Nat}{xs:List V}(e:items h i=some xs):∃a ys,φ[i]?=some a/\(SqL K H a ys\/SqT K H a ys)/\rvs φ xs ys:=by
 unfold items at e;split at e
 ·rename_i fz zs q;cases e;obtain⟨a,ys,h1,h2,h3⟩:=R.lst (i:=i) (xs:=xs) (by unfold qL;rw[q]);exact⟨a,ys,h1,.inl h2,h3⟩
 ·rename_i zs q;cases e;obtain⟨a,ys,h1,h2,h3⟩:=R.tup (i:=i) (xs:=xs) (by unfold qT;rw[q]);exact⟨a,ys,h1,.inr h2,h3⟩
 ·cases e
end
open _L (PG Inv RelV Vals EP TP AP SP OpR qe R2)
theorem tK{α β:Type}{r:Res α}{f:α->Res β}{x:β}(h:r.bind f=.ok x):∃a,r=.ok a/\f a=.ok x:=by
 cases r with
 |ok a=>exact⟨a,rfl,h⟩
 |exc c h'=>cases h
 |stuck=>cases h
theorem qB{φ:List Addr}{i:Int}{w:V}(h:rv φ (.int i) w):w=.int i:=by
 cases w with
 |int j=>exact congrArg V.int (show i=j from h).symm
 |_=>exact False.elim h
theorem qx{φ:List Addr}{i:Bool}{w:V}(h:rv φ (.bl i) w):w=.bl i:=by
 cases w with
 |bl j=>exact congrArg V.bl (show i=j from h).symm
 |_=>exact False.elim h
theorem zF{φ:List Addr}{i:Str}{w:V}(h:rv φ (.str i) w):w=.str i:=by
 cases w with
 |str j=>exact congrArg V.str (show i=j from h).symm
 |_=>exact False.elim h
theorem ql{φ:List Addr}{w:V}(h:rv φ .non w):w=.non:=by
 cases w with
 |non=>rfl
 |_=>exact False.elim h
theorem qI{φ:List Addr}{i:Nat}{w:V}(h:rv φ (.ref i) w):∃a,w=.ref a/\φ[i]?=some a:=by
 cases w with
 |ref j=>exact⟨j,rfl,h⟩
 |_=>exact False.elim h
section
variable (K:PySem.W.Frag)(G:List Addr)(F:Nat->List V->AH->RV)
noncomputable def tE(e:E):TE:=λσc H Q=>∃φ h σ v h',Rl K G φ h H/\rst φ σ σc/\ev F e σ h=.ok (v,h')/\∀φ' H' w,Ext φ φ'->Rl K G φ' h' H'->rv φ' v w->Q w H'
noncomputable def tB(r:St->AH->Res (Bool×AH)):TT:=λσc H Q=>∃φ h σ b h',Rl K G φ h H/\rst φ σ σc/\r σ h=.ok (b,h')/\∀φ' H',Ext φ φ'->Rl K G φ' h' H'->Q b H'
noncomputable abbrev tT(e:E):TT:=tB K G (λσ h=>asB (ev F e σ h))
noncomputable def tL(as:Es):TA:=λσc H Q=>∃φ h σ vs h',Rl K G φ h H/\rst φ σ σc/\evs F as σ h=.ok (vs,h')/\∀φ' H' ws,Ext φ φ'->Rl K G φ' h' H'->rvs φ' vs ws->Q ws H'
end
section
variable{X:Cx}{G:List Addr}{F:Nat->List V->AH->RV}
theorem qc{e:Expr}{t t':TE}(h:PE X e t)(w:∀σ H Q,t' σ H Q->t σ H Q):PE X e t':=λpins s σ H Q I q=>h pins s σ H Q I (w σ H Q q)
theorem u7{e:Expr}{t t':TT}(h:PT X e t)(w:∀σ H Q,t' σ H Q->t σ H Q):PT X e t':=λpins s σ H Q I q=>h pins s σ H Q I (w σ H Q q)
theorem qDy{e:List Expr}{t t':TA}(h:PA X e t)(w:∀σ H Q,t' σ H Q->t σ H Q):PA X e t':=λpos pins s σ H Q I q=>h pos pins s σ H Q I (w σ H Q q)
variable (X G F) in
abbrev SE(e:Expr)(a:E):Prop:=PE X e (tE X.K G F a)
variable (X G F) in
abbrev ST(e:Expr)(a:E):Prop:=PT X e (tT X.K G F a)
variable (X G F) in
abbrev SA(es:List Expr)(as:Es):Prop:=PA X es (tL X.K G F as)
variable{K:PySem.W.Frag}{φ φ':List Addr}{h h1 h2:AH}{H:Hp}{σ σc:St}{a b:E}{x y:V}
theorem jc(R:Rl K G φ h H)(rs:rst φ σ σc)(ea:ev F a σ h=.ok (x,h1))(eb:ev F b σ h1=.ok (y,h2)){Rr:V->V->Hp->Prop}
  (k:∀φ2 H2 xc yc,Ext φ φ2->Rl K G φ2 h2 H2->rv φ2 x xc->rv φ2 y yc->Rr xc yc H2):tE K G F a σc H (λxc H1=>tE K G F b σc H1 (λyc H2=>Rr xc yc H2)):=
 ⟨φ,h,σ,x,h1,R,rs,ea,λφ1 H1 xc e1 R1 r1=>⟨φ1,h1,σ,y,h2,R1,rst.mono e1 rs,eb,λφ2 H2 yc e2 R2 r2=>k φ2 H2 xc yc (e1.trans e2) R2 (rv.mono e2 r1) r2⟩⟩
theorem qDg{i:Nat}{n:Str}{pos:Pos}(hN:X.N[i]?=some n)(hv:_L.Vis X.env.scope n)(hd:(n==("__debug__":Str))=false)(hcd:(n==("__classdict__":Str))=false):SE X G F (.Name n pos) (.var i):=by
 refine qc (_L.pe_var hN hv hd hcd) λσc H Q q=>?_;obtain⟨φ,h,σ,v,h',R,rs,e,k⟩:=q;unfold ev at e;split at e
 ·rename_i w q;cases e;obtain⟨oc,ec,r⟩:=qK rs q;obtain⟨u,rfl,r⟩:=r;exact⟨u,ec,k φ H u (.refl _) R r⟩
 ·cases e
theorem V4{v:V}{w:V}{σc:St}{H:Hp}{Q:VK}(hr:∀φ,rv φ v w)(q:tE K G F (.cst v) σc H Q):_L.tC w σc H Q:=by
 obtain⟨φ,h,σ,v',h',R,rs,e,k⟩:=q;unfold ev at e;cases e;exact k φ H w (.refl _) R (hr φ)
theorem qAs {i j pos}:SE X G F (.Constant (.int i) j pos) (.cst (.int i)):=qc _L.pe_int λ_ _ _=>V4 λ_=>rfl
theorem qDT {i j pos}:SE X G F (.Constant (.bool i) j pos) (.cst (.bl i)):=qc _L.pe_bl λ_ _ _=>V4 λ_=>rfl
theorem qAV {j pos}:SE X G F (.Constant .none j pos) (.cst .non):=qc _L.pe_non λ_ _ _=>V4 λ_=>trivial
theorem qAX {i j pos}:SE X G F (.Constant (.str i) j pos) (.cst (.str i)):=qc _L.pe_str λ_ _ _=>V4 λ_=>rfl
theorem qA6{n:Str}{v:V}{u:Value}{pos:Pos}(hg:_L.Gl X n)(hm:X.mg n=some u)(r:RelV v u)(hv:∀φ,rv φ v v)(hd:(n==("__debug__":Str))=false):SE X G F (.Name n pos) (.cst v):=
 qc (_L.pe_glob hg hm r hd) λ_ _ _=>V4 hv
theorem qBx{n:Str}{g:Nat}{a:Addr}{pos:Pos}(hg:_L.Gl X n)(hm:X.mg n=some (.ref a))(hG:G[g]?=some a)(hd:(n==("__debug__":Str))=false):SE X G F (.Name n pos) (.glob g):=by
 refine qc (_L.pe_glob (v:=.ref a) hg hm rfl hd) λσc H Q q=>?_;obtain⟨φ,h,σ,v',h',R,rs,e,k⟩:=q;unfold ev at e;cases e;exact k φ H (.ref a) (.refl _) R (R.glob.get hG)
noncomputable def opB:BOp->Operator
 | .add=>.Add | .sub=>.Sub | .mul=>.Mult | .fdiv=>.FloorDiv | .mod=>.Mod | .pow=>.Pow | .band=>.BitAnd
def qFe(i j:Int):Prop:=j≠0/\j.natAbs.log2<9000
theorem v3:OpR X (binaryOp .FloorDiv) (_L.rI qFe λi j=>.int (i.fdiv j)):=_L.opI λ_ _ _ _ _ _ _ hc q=>floordiv_int hc.1 q (.inl (PyProof.noPylong_of_log2 hc.2))
def qFb(i j:Int):Prop:=i.natAbs.log2<9000/\j.natAbs.log2<9000
theorem F9{i:Int}(h:i.natAbs.log2<9000):Builtin.Int.intBits i<=2 ^ 20:=by
 unfold Builtin.Int.intBits;have e:(2:Nat) ^ 20=1048576:=by decide
 rw[e];split<;>omega
theorem qBm:OpR X (binaryOp .Mult) (_L.rI qFb λi j=>.int (i*j)):=_L.opI λ_ _ _ _ _ _ _ hc q=>mul_int q (IntMulOk.of_bits (F9 hc.1) (F9 hc.2))
theorem G0{i:Int}(h:mid i=true):i.natAbs.log2<9000:=uI h
noncomputable def qFr(K:PySem.W.Frag):BOp->R2
 | .add=>λx y H Q=>(_L.rI0 (λi j=>.int (i+j)) x y H Q\/_L.rCat x y H Q)\/_L.rCatT K x y H Q
 | .sub=>_L.rI0 λi j=>.int (i-j)
 | .mul=>λx y H Q=>(_L.rI _L.CMul (λi j=>.int (i*j)) x y H Q\/_L.rRep x y H Q)\/_L.rI qFb (λi j=>.int (i*j)) x y H Q
 | .fdiv=>λx y H Q=>_L.rI _L.CDiv (λi j=>.int (i / j)) x y H Q\/_L.rI qFe (λi j=>.int (i.fdiv j)) x y H Q
 | .mod=>λx y H Q=>_L.rI (λ_ j=>0<j) (λi j=>.int (i % j)) x y H Q\/_L.rI (λ_ j=>j≠0) (λi j=>.int (i.fmod j)) x y H Q
 | .pow=>_L.rI _L.CPow λi j=>.int (i ^ j.toNat)
 | .band=>_L.rI0 λi j=>.int (Builtin.bitAnd i j)
theorem qBC:∀op,OpR X (binaryOp (opB op)) (qFr X.K op)
 | .add=>(_L.op_add.or _L.op_cat).or _L.op_catT
 | .sub=>_L.op_sub
 | .mul=>(_L.op_mul.or _L.op_rep).or qBm
 | .fdiv=>_L.op_fdiv.or v3
 | .mod=>_L.op_mod.or _L.op_modN
 | .pow=>_L.op_pow
 | .band=>_L.op_and
theorem Qh:lim<=sizeLine:=by decide
theorem qAF:lim<sizeLine:=by decide
theorem M0{i:Int}(h:QU i=true):-(2 ^ 64)<i/\i<2 ^ 64:=by
 unfold QU two64 at h;have:=uI h;omega
theorem qAw{op:BOp}{v xc yc:V}{h':AH}{Q:VK}(e:qDL op x y h=.ok (v,h'))(R:Rl K G φ h H)(rx:rv φ x xc)(ry:rv φ y yc)
  (k:∀φ' H' w,Ext φ φ'->Rl K G φ' h' H'->rv φ' v w->Q w H'):qFr K op xc yc H Q:=by
 cases op with
 |add=>
  dsimp only[qDL]at e;split at e
  ·replace e:=zI e;obtain⟨b,rfl,e⟩:=e;split at e
   ·rename_i xs ys e1 e2;split at e
    ·rename_i hl;cases e;obtain⟨q1,a1,ys1,ha1,hH1,r1⟩:=R.mut e1;obtain⟨q2,a2,ys2,ha2,hH2,r2⟩:=R.mut e2;obtain⟨b1,rfl,hb1⟩:=qI rx;obtain⟨b2,rfl,hb2⟩:=qI ry;rw[ha1]at hb1;cases hb1;rw[ha2]at hb2;cases hb2;refine .inl (.inr ⟨a1,a2,ys1,ys2,rfl,rfl,hH1,hH2,?_,λp hp=>k (φ++[p]) _ _ ⟨[p],rfl⟩ (R.newL hp (qN r1 r2)) R.lastRef⟩);have l1:=Paired.length r1;have l2:=Paired.length r2;have:=Qh;omega
    ·cases e
   ·split at e
    ·rename_i xs ys e1 e2;split at e
     ·rename_i hl;obtain⟨a1,ys1,ha1,hH1,r1⟩:=R.tup e1;obtain⟨a2,ys2,ha2,hH2,r2⟩:=R.tup e2;obtain⟨b1,rfl,hb1⟩:=qI rx;obtain⟨b2,rfl,hb2⟩:=qI ry;rw[ha1]at hb1;cases hb1;rw[ha2]at hb2;cases hb2;have l1:=Paired.length r1;have l2:=Paired.length r2;refine .inr ⟨a1,a2,ys1,ys2,rfl,rfl,hH1,hH2,?_,?_,λz=>?_,λz p hp=>?_⟩
      ·rintro rfl;exact hl.1 (wc.mp l1)
      ·have:=Qh;omega
      ·subst z;rw[if_pos (wc.mp l2)]at e;cases e;exact k φ H _ (.refl _) R ha1
      ·rw[if_neg (λq=>z (by subst q;exact wc.mp l2.symm))]at e;cases e;exact k (φ++[p]) _ _ ⟨[p],rfl⟩ (R.newT hp (qN r1 r2)) R.lastRef
     ·cases e
    ·cases e
  ·replace e:=qq e;obtain⟨i,j,rfl,rfl,e⟩:=e;cases e;cases qB rx;cases qB ry;exact .inl (.inl ⟨_,_,rfl,rfl,k φ H _ (.refl _) R rfl⟩)
 |sub=>
  replace e:=qq e;obtain⟨i,j,rfl,rfl,e⟩:=e;cases e;cases qB rx;cases qB ry;exact⟨_,_,rfl,rfl,k φ H _ (.refl _) R rfl⟩
 |mul=>
  dsimp only[qDL]at e;split at e
  ·split at e
   ·split at e
    ·rename_i xs e1;split at e
     ·rename_i hl;obtain⟨h0,hl,h3⟩:=hl;cases e;obtain⟨q1,a1,ys1,ha1,hH1,r1⟩:=R.mut e1;obtain⟨b1,rfl,hb1⟩:=qI rx;rw[ha1]at hb1;cases hb1;cases qB ry;refine .inl (.inr ⟨a1,_,ys1,rfl,rfl,hH1,by omega,by omega,?_,λp hp=>k (φ++[p]) _ _ ⟨[p],rfl⟩ (R.newL hp (Zl r1 _)) R.lastRef⟩);have l1:=Paired.length r1;have:=Qh;rw[<-l1];omega
     ·cases e
    ·cases e
   ·cases e
  ·replace e:=qq e;obtain⟨i,j,rfl,rfl,e⟩:=e;split at e
   ·rename_i hs;cases e;cases qB rx;cases qB ry;rw[va,va,wE]at hs;rcases hs with(z|z)|z
    ·exact .inl (.inl ⟨_,_,rfl,rfl,.inl (M0 z),k φ H _ (.refl _) R rfl⟩)
    ·exact .inl (.inl ⟨_,_,rfl,rfl,.inr (M0 z),k φ H _ (.refl _) R rfl⟩)
    ·exact .inr ⟨_,_,rfl,rfl,⟨G0 z.1,G0 z.2⟩,k φ H _ (.refl _) R rfl⟩
   ·cases e
 |fdiv=>
  replace e:=qq e;obtain⟨i,j,rfl,rfl,e⟩:=e;split at e
  ·rename_i hc;cases e;cases qB rx;cases qB ry;rcases hc.2 with z|z
   ·exact .inl ⟨_,_,rfl,rfl,⟨hc.1,z⟩,k φ H _ (.refl _) R rfl⟩
   ·refine .inr ⟨_,_,rfl,rfl,⟨by omega,G0 z⟩,?_⟩;dsimp only;rw[Int.fdiv_eq_ediv_of_nonneg _ (by omega)];exact k φ H _ (.refl _) R rfl
  ·split at e
   ·rename_i hc;cases e;cases qB rx;cases qB ry;exact .inr ⟨_,_,rfl,rfl,⟨by omega,G0 hc.2⟩,k φ H _ (.refl _) R rfl⟩
   ·cases e
 |mod=>
  replace e:=qq e;obtain⟨i,j,rfl,rfl,e⟩:=e;split at e
  ·rename_i hc;cases e;cases qB rx;cases qB ry;exact .inl ⟨_,_,rfl,rfl,hc,k φ H _ (.refl _) R rfl⟩
  ·split at e
   ·rename_i hc;cases e;cases qB rx;cases qB ry;exact .inr ⟨_,_,rfl,rfl,(by omega),k φ H _ (.refl _) R rfl⟩
   ·cases e
 |pow=>
  replace e:=qq e;obtain⟨i,j,rfl,rfl,e⟩:=e;split at e
  ·rename_i hc;cases e;cases qB rx;cases qB ry;refine⟨_,_,rfl,rfl,⟨hc.1,by omega,by omega⟩,k φ H _ (.refl _) R rfl⟩
  ·cases e
 |band=>
  replace e:=qq e;obtain⟨i,j,rfl,rfl,e⟩:=e;cases e;cases qB rx;cases qB ry;exact⟨_,_,rfl,rfl,k φ H _ (.refl _) R rfl⟩
theorem qAZ{op:BOp}{ea eb:Expr}{pos:Pos}(ha:SE X G F ea a)(hb:SE X G F eb b):SE X G F (.BinOp ea (opB op) eb pos) (.bin op a b):=by
 refine qc (_L.pe_op (qBC op) ha hb) λσc H Q q=>?_;obtain⟨φ,h,σ,v,h',R,rs,e,k⟩:=q;unfold ev at e;obtain⟨⟨x,h1⟩,e1,e⟩:=tK e;obtain⟨⟨y,h2⟩,e2,e⟩:=tK e;exact jc R rs e1 e2 λφ2 H2 xc yc x2 R2 r1 r2=>qAw e R2 r1 r2 λφ' H' w x' R' r'=>k φ' H' w (x2.trans x') R' r'
theorem qCS{ea:Expr}{pos:Pos}(ha:SE X G F ea a):SE X G F (.UnaryOp .USub ea pos) (.neg a):=by
 refine qc (_L.pe_un _L.un_neg ha) λσc H Q q=>?_;obtain⟨φ,h,σ,v,h',R,rs,e,k⟩:=q;unfold ev at e;obtain⟨⟨x,h1⟩,e1,e⟩:=tK e;refine⟨φ,h,σ,x,h1,R,rs,e1,λφ1 H1 xc x1 R1 r1=>?_⟩;dsimp only at e;split at e
 ·cases e;cases qB r1;exact⟨_,rfl,k φ1 H1 _ x1 R1 rfl⟩
 ·cases e
end
open PySem.SeqAt
structure Eq3(A:Around)(s:Shared)(u w:Value)(b:Bool):Prop where
 eq:EqAt A s u w b
 rc:RcAt A s u w b
 ne:RcNeAt A s u w (!b)
theorem Jh{A:Around}{s:Shared}{φ:List Addr}:∀{x y xc yc:V}{u w:Value}{b:Bool},eqF x y=some b->rv φ x xc->rv φ y yc->RelV xc u->RelV yc w->Eq3 A s u w b:=by
 intro x y xc yc u w b e rx ry ru rw';cases x with
 |non=>
  cases ql rx;cases ru;cases y with
  |non=>cases ql ry;cases rw';cases e;exact⟨.same _,.none_none,.none_none⟩
  |bl j=>cases qx ry;cases rw';cases e;exact⟨.none_bool _,.none_bool _,.none_bool _⟩
  |int j=>cases qB ry;obtain⟨t,rfl⟩:=rw';cases e;exact⟨.none_int _ _,.none_int _ _,.none_int _ _⟩
  |str j=>cases zF ry;obtain⟨t,rfl⟩:=rw';cases e;exact⟨.none_str _ _,.none_str _ _,.none_str _ _⟩
  |_=>cases e
 |bl i=>
  cases qx rx;cases ru;cases y with
  |non=>cases ql ry;cases rw';cases e;exact⟨.bool_none _,.bool_none _,.bool_none _⟩
  |bl j=>cases qx ry;cases rw';cases e;exact⟨.bool_bool _ _,.bool_bool _ _,.bool_bool _ _⟩
  |int j=>cases qB ry;obtain⟨t,rfl⟩:=rw';cases e;exact⟨.bool_int _ _ _,.bool_int _ _ _,.bool_int _ _ _⟩
  |str j=>cases zF ry;obtain⟨t,rfl⟩:=rw';cases e;exact⟨.bool_str _ _ _,.bool_str _ _ _,.bool_str _ _ _⟩
  |_=>cases e
 |int i=>
  cases qB rx;obtain⟨t,rfl⟩:=ru;cases y with
  |non=>cases ql ry;cases rw';cases e;exact⟨.int_none _ _,.int_none _ _,.int_none _ _⟩
  |bl j=>cases qx ry;cases rw';cases e;exact⟨.int_bool _ _ _,.int_bool _ _ _,.int_bool _ _ _⟩
  |int j=>cases qB ry;obtain⟨t,rfl⟩:=rw';cases e;exact⟨.int_int _ _ _ _,.int_int _ _ _ _,.int_int _ _ _ _⟩
  |str j=>cases zF ry;obtain⟨t,rfl⟩:=rw';cases e;exact⟨.int_str _ _ _ _,.int_str _ _ _ _,.int_str _ _ _ _⟩
  |_=>cases e
 |str i=>
  cases zF rx;obtain⟨t,rfl⟩:=ru;cases y with
  |non=>cases ql ry;cases rw';cases e;exact⟨.str_none _ _,.str_none _ _,.str_none _ _⟩
  |bl j=>cases qx ry;cases rw';cases e;exact⟨.str_bool _ _ _,.str_bool _ _ _,.str_bool _ _ _⟩
  |int j=>cases qB ry;obtain⟨t,rfl⟩:=rw';cases e;exact⟨.str_int _ _ _ _,.str_int _ _ _ _,.str_int _ _ _ _⟩
  |str j=>cases zF ry;obtain⟨t,rfl⟩:=rw';cases e;exact⟨.str_str _ _ _ _,.str_str _ _ _ _,.str_str _ _ _ _⟩
  |_=>cases e
 |_=>cases y<;>cases e
theorem L7{φ:List Addr}{x y w:V}{b:Bool}(e:eqF x y=some b)(rx:rv φ x w)(ry:rv φ y w):b=true:=by
 cases x with
 |non=>cases ql rx;cases y<;>first|exact False.elim ry|(cases e;rfl)|cases e
 |bl i=>cases qx rx;cases y<;>first|exact False.elim ry|(rename_i j;cases (show j=i from ry);cases e;simp)|cases e
 |int i=>cases qB rx;cases y<;>first|exact False.elim ry|(rename_i j;cases (show j=i from ry);cases e;simp)|cases e
 |str i=>cases zF rx;cases y<;>first|exact False.elim ry|(rename_i j;cases (show j=i from ry);cases e;simp)|cases e
 |_=>cases y<;>cases e
theorem Qe{f:V->V->Option Bool}:∀{xs ys:List V}{bs:List Bool},ZU f xs ys=some bs->bs.length=xs.length/\ys.length=xs.length/\∀(j:Nat) x y,xs[j]?=some x->ys[j]?=some y->∃b,bs[j]?=some b/\f x y=some b
 | [],[],bs,e=>by
  cases e;exact⟨rfl,rfl,λj x y h=>by simp at h⟩
 | [],_::_,_,e=>by cases e
 |_::_,[],_,e=>by cases e
 |x::xs,y::ys,bs,e=>by
  unfold ZU at e;split at e
  ·rename_i b bs' e1 e2;cases e;obtain⟨l1,l2,k⟩:=Qe e2;refine⟨by simp[l1],by simp[l2],λj u v h1 h2=>?_⟩;cases j with
   |zero=>simp at h1 h2;subst h1 h2;exact⟨b,rfl,e1⟩
   |succ j=>obtain⟨b',h3,h4⟩:=k j u v (by simpa using h1) (by simpa using h2);exact⟨b',by simpa using h3,h4⟩
  ·cases e
theorem Jv(bs:List Bool):(List.range bs.length).all (λj=>bs.getD j true)=bs.all id:=by
 rw[wj];simp only[vA,wg,id];constructor
 ·intro h b hb;obtain⟨j,hj,rfl⟩:=vS.mp hb;have:=h j hj;rw[wJ,wD hj]at this;exact this
 ·intro h j hj;rw[wJ,wD hj];exact h _ (vV hj)
section
variable{X:Cx}{G φ:List Addr}{h:AH}{H:Hp}{pins:List (Addr×Obj)}{σ:_L.St}{s:Shared}
theorem L6(I:Inv X pins σ H s)(R:Rl X.K G φ h H):∀(n:Nat){x y w:V}{b:Bool},eqD h n x y=some b->rv φ x w->rv φ y w->b=true
 | 0,x,y,w,b,e,rx,ry=>L7 e rx ry
 |n+1,x,y,w,b,e,rx,ry=>by
  have all:∀{xs ys zs:List V}{bs:List Bool},rvs φ xs zs->rvs φ ys zs->ZU (eqD h n) xs ys=some bs->bs.all id=true:=λ{xs ys zs bs} r1 r2 e=>by
   obtain⟨l1,l2,k⟩:=Qe e;rw[vA];intro b hb;obtain⟨j,hj,rfl⟩:=vS.mp hb;have hx:j<xs.length:=by omega
   have hy:j<ys.length:=by omega
   obtain⟨b',hb',e'⟩:=k j _ _ (wD hx) (wD hy);rw[wD hj]at hb';cases hb';obtain⟨z,hz,q1⟩:=qK r1 (wD hx);obtain⟨z',hz',q2⟩:=qK r2 (wD hy);rw[hz]at hz';cases hz';exact L6 I R n e' q1 q2
  cases x with
  |ref a=>
   obtain⟨p,rfl,hp⟩:=qI rx;cases y with
   |ref c=>
    have hc:φ[c]?=some p:=ry;simp only[eqD]at e;split at e
    ·rename_i f1 xs f2 ys e1 e2;split at e
     ·cases e;rfl
     ·obtain⟨p1,z1,q1,s1,r1⟩:=R.lst (i:=a) (xs:=xs) (by unfold qL;rw[e1]);obtain⟨p2,z2,q2,s2,r2⟩:=R.lst (i:=c) (xs:=ys) (by unfold qL;rw[e2]);rw[hp]at q1;cases q1;rw[hc]at q2;cases q2;have:=I.list_inj s1 s2;subst this;split at e
      ·obtain⟨bs,e3,rfl⟩:=wA.mp e;exact all r1 r2 e3
      ·rename_i hne;exact absurd ((Paired.length r1).trans (Paired.length r2).symm) hne
    ·rename_i xs ys e1 e2;split at e
     ·cases e;rfl
     ·obtain⟨p1,z1,q1,s1,r1⟩:=R.tup (i:=a) (xs:=xs) (by unfold qT;rw[e1]);obtain⟨p2,z2,q2,s2,r2⟩:=R.tup (i:=c) (xs:=ys) (by unfold qT;rw[e2]);rw[hp]at q1;cases q1;rw[hc]at q2;cases q2;have:=I.tuple_inj s1 s2;subst this;split at e
      ·obtain⟨bs,e3,rfl⟩:=wA.mp e;exact all r1 r2 e3
      ·rename_i hne;exact absurd ((Paired.length r1).trans (Paired.length r2).symm) hne
    ·rename_i f1 xs ys e1 e2;obtain⟨p1,z1,q1,s1,r1⟩:=R.lst (i:=a) (xs:=xs) (by unfold qL;rw[e1]);obtain⟨p2,z2,q2,s2,r2⟩:=R.tup (i:=c) (xs:=ys) (by unfold qT;rw[e2]);rw[hp]at q1;cases q1;rw[hc]at q2;cases q2;obtain⟨i1,_,t1,_⟩:=I.list s1;obtain⟨i2,_,t2,_⟩:=I.tuple s2;exact absurd rfl (ne_of_list_tuple t1.isList t2)
    ·rename_i xs f1 ys e1 e2;obtain⟨p1,z1,q1,s1,r1⟩:=R.tup (i:=a) (xs:=xs) (by unfold qT;rw[e1]);obtain⟨p2,z2,q2,s2,r2⟩:=R.lst (i:=c) (xs:=ys) (by unfold qL;rw[e2]);rw[hp]at q1;cases q1;rw[hc]at q2;cases q2;obtain⟨i1,_,t1,_⟩:=I.tuple s1;obtain⟨i2,_,t2,_⟩:=I.list s2;exact absurd rfl (ne_of_list_tuple t2.isList t1)
    ·cases e
   |_=>exact False.elim ry
  |_=>
   cases y with
   |ref c=>
    obtain⟨p,rfl,hp⟩:=qI ry;exact False.elim rx
   |_=>exact L7 e rx ry
theorem W6(I:Inv X pins σ H s)(R:Rl X.K G φ h H):∀(n:Nat){A:Around}{x y xc yc:V}{u w:Value}{b:Bool},A.units+n<cLine->eqD h n x y=some b->rv φ x xc->rv φ y yc->RelV xc u->RelV yc w->Eq3 A s u w b
 | 0,A,x,y,xc,yc,u,w,b,hu,e,rx,ry,ru,rw'=>Jh e rx ry ru rw'
 |n+1,A,x,y,xc,yc,u,w,b,hu,e,rx,ry,ru,rw'=>by
  have hu0:A.units<cLine:=by omega
  have hu1:A.in1.units+n<cLine:=by show A.units+1+n<cLine;omega
  have item:∀{xs ys zs ts:List V}{us ws:List Value}{bs:List Bool},rvs φ xs zs->rvs φ ys ts->Vals zs us->Vals ts ws->ZU (eqD h n) xs ys=some bs->us.length=bs.length/\ws.length=bs.length/\
    ∀(j:Nat) (h1:j<us.toArray.size) (h2:j<ws.toArray.size),EqAt A.in1 s us.toArray[j] ws.toArray[j] (bs.getD j true):=λ{xs ys zs ts us ws bs} r1 r2 v1 v2 e=>by
   obtain⟨l1,l2,k⟩:=Qe e;have n1:=Paired.length r1;have n2:=Paired.length r2;have n3:=v1.length;have n4:=v2.length;refine⟨by omega,by omega,λj h1 h2=>?_⟩;have g1:j<us.length:=by simpa using h1
   have g2:j<ws.length:=by simpa using h2
   have hx:j<xs.length:=by omega
   have hy:j<ys.length:=by omega
   obtain⟨b',hb',e'⟩:=k j _ _ (wD hx) (wD hy);obtain⟨z,hz,q1⟩:=qK r1 (wD hx);obtain⟨t,ht,q2⟩:=qK r2 (wD hy);obtain⟨u',hu',q3⟩:=v1.get hz;obtain⟨w',hw',q4⟩:=v2.get ht;rw[wD g1]at hu';rw[wD g2]at hw';cases hu';cases hw';rw[wJ,hb'];have:=(W6 I R n (A:=A.in1) hu1 e' q1 q2 q3 q4).eq;simpa using this
  have refs:∀{a:Nat}{p:Addr}{v:V}{b:Bool},φ[a]?=some p->(if (items h a).isSome&&flat v then some false else none)=some b->b=false/\∃its,s.heap.IsList p its\/s.heap.IsTuple p its:=λ{a p v b} hp e=>by
   cases ea:h[a]? with
   |none=>rw[show items h a=none from(by unfold items;rw[ea])]at e;cases e
   |some o=>
    have hb:b=false:=by
     split at e
     ·cases e;rfl
     ·cases e
    refine⟨hb,?_⟩;cases o with
    |lst f xs=>
     obtain⟨p1,z1,q1,s1,r1⟩:=R.lst (i:=a) (xs:=xs) (by unfold qL;rw[ea]);rw[hp]at q1;cases q1;obtain⟨i1,_,t1,_⟩:=I.list s1;exact⟨_,.inl t1.isList⟩
    |tup xs=>
     obtain⟨p1,z1,q1,s1,r1⟩:=R.tup (i:=a) (xs:=xs) (by unfold qT;rw[ea]);rw[hp]at q1;cases q1;obtain⟨i1,_,t1,_⟩:=I.tuple s1;exact⟨_,.inr t1⟩
    |ob ks=>rw[show items h a=none from(by unfold items;rw[ea])]at e;cases e
  cases x with
  |ref a=>
   obtain⟨p,rfl,hp⟩:=qI rx;cases ru;cases y with
   |ref c=>
    obtain⟨q,rfl,hq⟩:=qI ry;cases rw';have same:p=q->b=true:=λz=>by
     subst z;exact L6 I R (n+1) e rx (show rv φ (.ref c) (.ref p) from hq)
    simp only[eqD]at e;split at e
    ·rename_i f1 xs f2 ys e1 e2;obtain⟨p1,z1,q1,s1,r1⟩:=R.lst (i:=a) (xs:=xs) (by unfold qL;rw[e1]);obtain⟨p2,z2,q2,s2,r2⟩:=R.lst (i:=c) (xs:=ys) (by unfold qL;rw[e2]);rw[hp]at q1;cases q1;rw[hq]at q2;cases q2;obtain⟨i1,v1,t1,_⟩:=I.list s1;obtain⟨i2,v2,t2,_⟩:=I.list s2;split at e
     ·rename_i hac;subst hac;rw[hp]at hq;cases hq;cases e;have rc:=RcAt.lists (A:=A) (e:=λ_=>true) t1.isList t1.isList rfl hu0 λj _ _=>EqAt.same _;have ne:=RcNeAt.lists (A:=A) (e:=λ_=>true) t1.isList t1.isList rfl hu0 λj _ _=>EqAt.same _;have al:∀l:List Nat,(l.all λ_=>true)=true:=λl=>by simp
      rw[al]at rc ne;exact⟨.same _,rc,ne⟩
     ·split at e
      ·obtain⟨bs,e3,rfl⟩:=wA.mp e;obtain⟨m1,m2,he⟩:=item r1 r2 v1 v2 e3;have hsz:i1.toArray.size=i2.toArray.size:=by simp;omega
       have rc:=RcAt.lists (A:=A) (e:=λj=>bs.getD j true) t1.isList t2.isList hsz hu0 he;have ne:=RcNeAt.lists (A:=A) (e:=λj=>bs.getD j true) t1.isList t2.isList hsz hu0 he;have sz:i1.toArray.size=bs.length:=by simpa using m1
       rw[sz,Jv]at rc ne;refine⟨?_,rc,ne⟩;by_cases hpq:p=q
       ·rw[same hpq];subst hpq;exact .same _
       ·exact .of_refs hpq rc
      ·rename_i hl;cases e;have n1:=Paired.length r1;have n2:=Paired.length r2;have n3:=v1.length;have n4:=v2.length;have hsz:(i1.toArray.size != i2.toArray.size)=true:=by simp;omega
       have rc:=RcAt.lists_lengths (A:=A) t1.isList t2.isList hsz hu0;have ne:=RcNeAt.lists_lengths (A:=A) t1.isList t2.isList hsz hu0;refine⟨?_,rc,ne⟩;by_cases hpq:p=q
       ·exact absurd (same hpq) (by decide)
       ·exact .of_refs hpq rc
    ·rename_i xs ys e1 e2;obtain⟨p1,z1,q1,s1,r1⟩:=R.tup (i:=a) (xs:=xs) (by unfold qT;rw[e1]);obtain⟨p2,z2,q2,s2,r2⟩:=R.tup (i:=c) (xs:=ys) (by unfold qT;rw[e2]);rw[hp]at q1;cases q1;rw[hq]at q2;cases q2;obtain⟨i1,v1,t1,_⟩:=I.tuple s1;obtain⟨i2,v2,t2,_⟩:=I.tuple s2;have t1':s.heap.IsTuple p i1.toArray:=t1;have t2':s.heap.IsTuple q i2.toArray:=t2;split at e
     ·rename_i hac;subst hac;rw[hp]at hq;cases hq;cases e;have rc:=RcAt.tuples (A:=A) (e:=λ_=>true) t1' t1' hu0 λj _ _=>EqAt.same _;have ne:=RcNeAt.tuples (A:=A) (e:=λ_=>true) t1' t1' hu0 λj _ _=>EqAt.same _;have al:∀l:List Nat,(l.all λ_=>true)=true:=λl=>by simp
      rw[al]at rc ne;simp only[uK,Bool.and_self]at rc ne;exact⟨.same _,rc,ne⟩
     ·split at e
      ·obtain⟨bs,e3,rfl⟩:=wA.mp e;obtain⟨m1,m2,he⟩:=item r1 r2 v1 v2 e3;have hsz:i1.toArray.size=i2.toArray.size:=by simp;omega
       have rc:=RcAt.tuples (A:=A) (e:=λj=>bs.getD j true) t1' t2' hu0 he;have ne:=RcNeAt.tuples (A:=A) (e:=λj=>bs.getD j true) t1' t2' hu0 he;have sz:i1.toArray.size=bs.length:=by simpa using m1
       have sz2:i2.toArray.size=bs.length:=by simpa using m2
       rw[sz,sz2,Nat.min_self,Jv,uK,vT]at rc ne;refine⟨?_,rc,ne⟩;by_cases hpq:p=q
       ·rw[same hpq];subst hpq;exact .same _
       ·exact .of_refs hpq rc
      ·rename_i hl;have n1:=Paired.length r1;have n2:=Paired.length r2;have n3:=v1.length;have n4:=v2.length;obtain⟨bs,e3,hb⟩:=wA.mp e;subst hb;have hsz:(i1.toArray.size==i2.toArray.size)=false:=by simp;omega
       obtain⟨m1,m2,he⟩:=item (zW ys.length r1) (zW xs.length r2) (v1.take ys.length) (v2.take xs.length) e3;have he':∀(j:Nat) (h1:j<i1.toArray.size) (h2:j<i2.toArray.size),EqAt A.in1 s i1.toArray[j] i2.toArray[j] (bs.getD j true):=λj h1 h2=>by
        have g1:j<i1.length:=by simpa using h1
        have g2:j<i2.length:=by simpa using h2
        have:=he j (by simp;omega) (by simp;omega);simpa using this
       have rc:=RcAt.tuples (A:=A) (e:=λj=>bs.getD j true) t1' t2' hu0 he';have ne:=RcNeAt.tuples (A:=A) (e:=λj=>bs.getD j true) t1' t2' hu0 he';rw[hsz,vD]at rc ne;refine⟨?_,rc,ne⟩;by_cases hpq:p=q
       ·exact absurd (same hpq) (by decide)
       ·exact .of_refs hpq rc
    ·rename_i f1 xs ys e1 e2;cases e;obtain⟨p1,z1,q1,s1,r1⟩:=R.lst (i:=a) (xs:=xs) (by unfold qL;rw[e1]);obtain⟨p2,z2,q2,s2,r2⟩:=R.tup (i:=c) (xs:=ys) (by unfold qT;rw[e2]);rw[hp]at q1;cases q1;rw[hq]at q2;cases q2;obtain⟨i1,_,t1,_⟩:=I.list s1;obtain⟨i2,_,t2,_⟩:=I.tuple s2;exact⟨.list_tuple t1.isList t2 hu0,.list_tuple t1.isList t2 hu0,.list_tuple t1.isList t2 hu0⟩
    ·rename_i xs f1 ys e1 e2;cases e;obtain⟨p1,z1,q1,s1,r1⟩:=R.tup (i:=a) (xs:=xs) (by unfold qT;rw[e1]);obtain⟨p2,z2,q2,s2,r2⟩:=R.lst (i:=c) (xs:=ys) (by unfold qL;rw[e2]);rw[hp]at q1;cases q1;rw[hq]at q2;cases q2;obtain⟨i1,_,t1,_⟩:=I.tuple s1;obtain⟨i2,_,t2,_⟩:=I.list s2;exact⟨.tuple_list t1 t2.isList hu0,.tuple_list t1 t2.isList hu0,.tuple_list t1 t2.isList hu0⟩
    ·cases e
   |non=>
    cases ql ry;cases rw';rcases refs hp (show (if (items h a).isSome&&flat V.non then some false else none)=some b from e) with⟨rfl,its,t|t⟩
    ·exact⟨.list_none t hu0,.list_none t hu0,.list_none t hu0⟩
    ·exact⟨.tuple_none t hu0,.tuple_none t hu0,.tuple_none t hu0⟩
   |bl j=>
    cases qx ry;cases rw';rcases refs hp (show (if (items h a).isSome&&flat (V.bl j) then some false else none)=some b from e) with⟨rfl,its,t|t⟩
    ·exact⟨.list_bool _ t hu0,.list_bool _ t hu0,.list_bool _ t hu0⟩
    ·exact⟨.tuple_bool _ t hu0,.tuple_bool _ t hu0,.tuple_bool _ t hu0⟩
   |int j=>
    cases qB ry;obtain⟨t',rfl⟩:=rw';rcases refs hp (show (if (items h a).isSome&&flat (V.int j) then some false else none)=some b from e) with⟨rfl,its,t|t⟩
    ·exact⟨.list_int _ _ t hu0,.list_int _ _ t hu0,.list_int _ _ t hu0⟩
    ·exact⟨.tuple_int _ _ t hu0,.tuple_int _ _ t hu0,.tuple_int _ _ t hu0⟩
   |str j=>
    cases zF ry;obtain⟨t',rfl⟩:=rw';rcases refs hp (show (if (items h a).isSome&&flat (V.str j) then some false else none)=some b from e) with⟨rfl,its,t|t⟩
    ·exact⟨.list_str _ _ t hu0,.list_str _ _ t hu0,.list_str _ _ t hu0⟩
    ·exact⟨.tuple_str _ _ t hu0,.tuple_str _ _ t hu0,.tuple_str _ _ t hu0⟩
   |_=>exact False.elim ry
  |non=>
   cases y with
   |ref c=>
    obtain⟨p,rfl,hp⟩:=qI ry;cases rw';cases ql rx;cases ru;rcases refs hp (show (if (items h c).isSome&&flat V.non then some false else none)=some b from(Bool.and_comm _ _) ▸ e) with⟨rfl,its,t|t⟩
    ·exact⟨.none_list t hu0,.none_list t hu0,.none_list t hu0⟩
    ·exact⟨.none_tuple t hu0,.none_tuple t hu0,.none_tuple t hu0⟩
   |_=>exact Jh e rx ry ru rw'
  |bl i=>
   cases y with
   |ref c=>
    obtain⟨p,rfl,hp⟩:=qI ry;cases rw';cases qx rx;cases ru;rcases refs hp (show (if (items h c).isSome&&flat (V.bl i) then some false else none)=some b from(Bool.and_comm _ _) ▸ e) with⟨rfl,its,t|t⟩
    ·exact⟨.bool_list _ t hu0,.bool_list _ t hu0,.bool_list _ t hu0⟩
    ·exact⟨.bool_tuple _ t hu0,.bool_tuple _ t hu0,.bool_tuple _ t hu0⟩
   |_=>exact Jh e rx ry ru rw'
  |int i=>
   cases y with
   |ref c=>
    obtain⟨p,rfl,hp⟩:=qI ry;cases rw';cases qB rx;obtain⟨t',rfl⟩:=ru;rcases refs hp (show (if (items h c).isSome&&flat (V.int i) then some false else none)=some b from(Bool.and_comm _ _) ▸ e) with⟨rfl,its,t|t⟩
    ·exact⟨.int_list _ _ t hu0,.int_list _ _ t hu0,.int_list _ _ t hu0⟩
    ·exact⟨.int_tuple _ _ t hu0,.int_tuple _ _ t hu0,.int_tuple _ _ t hu0⟩
   |_=>exact Jh e rx ry ru rw'
  |str i=>
   cases y with
   |ref c=>
    obtain⟨p,rfl,hp⟩:=qI ry;cases rw';cases zF rx;obtain⟨t',rfl⟩:=ru;rcases refs hp (show (if (items h c).isSome&&flat (V.str i) then some false else none)=some b from(Bool.and_comm _ _) ▸ e) with⟨rfl,its,t|t⟩
    ·exact⟨.str_list _ _ t hu0,.str_list _ _ t hu0,.str_list _ _ t hu0⟩
    ·exact⟨.str_tuple _ _ t hu0,.str_tuple _ _ t hu0,.str_tuple _ _ t hu0⟩
   |_=>exact Jh e rx ry ru rw'
  |_=>cases xc<;>exact False.elim rx
end
theorem JI{φ:List Addr}:∀{x w:V},flat x=true->rv φ x w->w=x
 | .non,_,_,h=>ql h
 | .bl _,_,_,h=>qx h
 | .int _,_,_,h=>qB h
 | .str _,_,_,h=>zF h
 | .ref _,_,f,_=>by cases f
 | .byt _,_,f,_=>by cases f
 | .flt _,_,f,_=>by cases f
 | .ty _,_,f,_=>by cases f
theorem zG{φ:List Addr}:∀{xs ws:List V},xs.all flat=true->rvs φ xs ws->ws=xs
 |_,_,_,.nil=>rfl
 |x::xs,w::ws,f,.cons r t=>by
  simp only[List.all_cons,wE]at f;rw[JI f.1 r,zG f.2 t]
theorem Qc:∀x:V,_L.flatV x=flat x:=by intro x;cases x<;>rfl
theorem ZM(xs:List V):xs.all _L.flatV=xs.all flat:=by
 induction xs with
 |nil=>rfl
 |cons x xs ih=>rw[List.all_cons,List.all_cons,ih,Qc]
section
variable{X:Cx}{G:List Addr}{F:Nat->List V->AH->RV}
noncomputable def opC:COp->CmpOp
 | .lt=>.Lt | .le=>.LtE | .gt=>.Gt | .ge=>.GtE | .eq=>.Eq | .ne=>.NotEq | .inn=>.In | .notin=>.NotIn | .is=>.Is | .isnot=>.IsNot
variable (X G) in
noncomputable def qD6(op:COp):R2:=λx y H Q=>∃φ h xa ya b,Rl X.K G φ h H/\rv φ xa x/\rv φ ya y/\j0 op xa ya h=some b/\Q (.bl b) H
theorem K3{φ:List Addr}{x y:V}(r:rv φ x y):decide (x=V.non)=decide (y=V.non):=by
 by_cases hx:x=V.non
 ·subst hx;cases ql r;rfl
 ·have hy:y≠V.non:=λhy=>by subst hy;cases x<;>first|exact hx rfl|exact False.elim r
  rw[uF hx,uF hy]
theorem D4(kvs:List (Int×V))(i:Int):((kvs.map kk).any λkv=>decide (kv.1=Sum.inl i))=Q0 kvs i:=by
 unfold Q0;rw[List.any_map];congr 1
 funext p
 show decide ((Sum.inl p.1:_L.Key)=Sum.inl i)=_;rw[wj];simp
theorem qBr(kvs:List (Int×V))(i:Int)(v:V):_L.putK (kvs.map kk) (Sum.inl i:_L.Key) v=(z9 kvs i v).map kk:=by
 unfold _L.putK z9;rw[D4];split
 ·rw[vL,vL];congr 1
  funext p
  show (if (Sum.inl p.1:_L.Key)=Sum.inl i then ((Sum.inl p.1:_L.Key),v) else kk p)=kk (if p.1=i then (p.1,v) else p);by_cases h:p.1=i
  ·rw[if_pos (by rw[h]),if_pos h];rfl
  ·rw[if_neg (λz=>h (Sum.inl.inj z)),if_neg h]
 ·rw[vH];rfl
theorem jz(hu:X.A.units+8<cLine):∀op,OpR X (compareOp (opC op)) (qD6 X G op):=by
 intro op pins s σ H x y v u Q I rx ry ⟨φ,h,xa,ya,b,R,r1,r2,e,q⟩;have hin:∀(neg:Bool){p:Nat}{ya':V}(e:(match items h p with|some xs=>if flat xa&&xs.all flat then some (if neg then !(xs.any λy=>_L.eqV y xa) else xs.any λy=>_L.eqV y xa) else none|none=>none)=some b),rv φ (.ref p) y->_L.rIn X.K neg x y H Q:=by
  intro neg p ya' e r2;split at e
  ·rename_i xs ex;split at e
   ·rename_i hf;simp only[wE]at hf;obtain⟨a,ys,ha,hs,rs⟩:=R.its ex;obtain⟨a',rfl,ha'⟩:=qI r2;rw[ha]at ha';cases ha';have e1:=JI hf.1 r1;have e2:=zG hf.2 rs;subst e1 e2;refine⟨a,ys,rfl,hs,by rw[Qc];exact hf.1,by rw[ZM];exact hf.2,?_⟩;cases e;exact q
   ·cases e
  ·cases e
 cases op with
 |lt=>
  replace e:=QZ e;obtain⟨i,j,rfl,rfl,rfl⟩:=e;cases qB r1;cases qB r2;exact _L.op_lt pins s σ H _ _ v u Q I rx ry ⟨_,_,rfl,rfl,q⟩
 |le=>
  replace e:=QZ e;obtain⟨i,j,rfl,rfl,rfl⟩:=e;cases qB r1;cases qB r2;exact _L.op_le pins s σ H _ _ v u Q I rx ry ⟨_,_,rfl,rfl,q⟩
 |gt=>
  replace e:=QZ e;obtain⟨i,j,rfl,rfl,rfl⟩:=e;cases qB r1;cases qB r2;exact _L.op_gt pins s σ H _ _ v u Q I rx ry ⟨_,_,rfl,rfl,q⟩
 |ge=>
  replace e:=QZ e;obtain⟨i,j,rfl,rfl,rfl⟩:=e;cases qB r1;cases qB r2;exact _L.op_ge pins s σ H _ _ v u Q I rx ry ⟨_,_,rfl,rfl,q⟩
 |eq=>exact(W6 I R 4 (by omega) (show eqD h 4 xa ya=some b from e) r1 r2 rx ry).rc _ _ _ _ ⟨.bl b,H,I,rfl,q⟩
 |ne=>
  have e':(eqD h 4 xa ya).map (!·)=some b:=e;obtain⟨c,e1,rfl⟩:=wA.mp e';exact(W6 I R 4 (by omega) e1 r1 r2 rx ry).ne _ _ _ _ ⟨.bl (!c),H,I,rfl,q⟩
 |inn=>
  replace e:=G7 e;obtain⟨p,rfl,e⟩:=e;cases ei:items h p with
  |some xs=>exact _L.op_in_seq pins s σ H x y v u Q I rx ry (hin false (ya':=.non) (by rw[ei]at e ⊢;exact e) r2)
  |none=>
   rw[ei]at e;dsimp only at e;split at e
   ·rename_i kvs ed;split at e
    ·rename_i i;cases e;obtain⟨a,ks,ea,_,hH,rk⟩:=R.dct ed;obtain⟨a',rfl,ha'⟩:=qI r2;rw[ea]at ha';cases ha';cases qB r1;cases ry;refine _L.d_in (by omega) I (_L.DGet.k (k:=.inl i) hH) rx λs' I'=>⟨.bl (_L.valV (ks.map kk) (Sum.inl i)).isSome,H,I',rfl,?_⟩
     rw[<-_L.valV_any,D4,rk.has];exact q
    ·cases e
   ·cases e
 |notin=>
  replace e:=G7 e;obtain⟨p,rfl,e⟩:=e;cases ei:items h p with
  |some xs=>exact _L.op_notIn_seq pins s σ H x y v u Q I rx ry (hin true (ya':=.non) (by rw[ei]at e ⊢;exact e) r2)
  |none=>
   rw[ei]at e;dsimp only at e;split at e
   ·rename_i kvs ed;split at e
    ·rename_i i;cases e;obtain⟨a,ks,ea,_,hH,rk⟩:=R.dct ed;obtain⟨a',rfl,ha'⟩:=qI r2;rw[ea]at ha';cases ha';cases qB r1;cases ry;refine _L.d_notIn (by omega) I (_L.DGet.k (k:=.inl i) hH) rx λs' I'=>⟨.bl (!(_L.valV (ks.map kk) (Sum.inl i)).isSome),H,I',rfl,?_⟩
     rw[<-_L.valV_any,D4,rk.has];exact q
    ·cases e
   ·cases e
 |is=>
  rcases Y9 (show isC xa ya id=some b from e) with⟨rfl,rfl⟩|⟨c,d,rfl,rfl,rfl⟩
  ·cases ql r2;rw[K3 r1]at q;exact _L.op_isN pins s σ H x _ v u Q I rx ry ⟨rfl,q⟩
  ·cases qx r1;cases qx r2;cases (show v=Value.bool c from rx);cases (show u=Value.bool d from ry);exact PySem.wpAny_is_plain rfl ⟨.bl (c==d),H,I,(by cases c<;>cases d<;>rfl),q⟩
 |isnot=>
  rcases Y9 (show isC xa ya (!·)=some b from e) with⟨rfl,rfl⟩|⟨c,d,rfl,rfl,rfl⟩
  ·cases ql r2;rw[K3 r1]at q;exact _L.op_notN pins s σ H x _ v u Q I rx ry ⟨rfl,q⟩
  ·cases qx r1;cases qx r2;cases (show v=Value.bool c from rx);cases (show u=Value.bool d from ry);exact PySem.wpAny_isNot_plain rfl ⟨.bl (!(c==d)),H,I,(by cases c<;>cases d<;>rfl),q⟩
theorem E9{A:Around}{E:Value->Shared->Prop}{prog:Program}{w:World}{s:Shared}{l:Addr}{vs:List Value}{ns:List Int}{M:Int}{Q:Value->Shared->Prop}(hh:A.handled=none)(hl:s.heap.IsList l vs.toArray)(hi:IntsAre vs ns)(hM:qB5 ns=some M)
  (h:∀h' tk (t:Tok),(∀b x,s.heap.get? b=some x->h'.get? b=some x)->Q (.int M t) { s with heap:=h',toks:=tk }):wpAny (model prog w) A (call (.builtin "max") [.ref l]) Q E s:=by
 obtain⟨m1,m2⟩:=U5 hM;obtain⟨xs,e⟩:=hi.allInts.items;have hns:ns=xs.toList.map (·.1):=by rw[<-hi.numsOf,<-nums_intItems,<-e]
 have hsz:0<xs.size:=by
  have h3:=List.length_pos_of_mem m1;rw[hns,wO,wa]at h3;exact h3
 rw[e]at hl;refine max_intList hh hl hsz λv h' tk hv hk=>?_;obtain⟨t,rfl⟩:=intItems_at hv;obtain⟨h1,h2⟩:=argBest_gt (numAt xs) (xs.size-1);have e1:numAt xs (argBest (λi j=>decide (numAt xs i>numAt xs j)) (xs.size-1))=M:=by
  refine Int.le_antisymm (m2 _ ?_) ?_
  ·rw[hns,numAt_eq];exact getD_mem (by rw[wO,wa];omega)
  ·have ha:=m1;rw[hns]at ha;obtain⟨j,hj,e2⟩:=mem_getD ha;rw[wO,wa]at hj;rw[<-e2,<-numAt_eq];exact h2 j (by omega)
 rw[e1];exact h h' tk t hk
theorem C8:∀{xs:List V}{is:List Int}{us:List Value},jE xs=some is->Vals xs us->us.length=is.length/\∀i v,us[i]?=some v->NumOf (is.getD i 0) v
 | [],is,_,e,.nil=>by cases e;exact⟨rfl,λi v e=>by simp at e⟩
 |x::r,is,u::us,e,.cons a t=>by
  unfold jE at e;split at e
  ·rename_i e';cases e'
  ·rename_i e';cases e';obtain⟨js,e1,rfl⟩:=wA.mp e;obtain⟨l,g⟩:=C8 e1 t;refine⟨by simp[l],λi v q=>?_⟩;cases i with
   |zero=>
    cases q;obtain⟨w,rfl⟩:=a;exact .inl ⟨w,rfl⟩
   |succ i=>exact g i v q
  ·rename_i e';cases e';obtain⟨js,e1,rfl⟩:=wA.mp e;obtain⟨l,g⟩:=C8 e1 t;refine⟨by simp[l],λi v q=>?_⟩;cases i with
   |zero=>
    cases q;exact .inr ⟨_,a,rfl⟩
   |succ i=>exact g i v q
  ·cases e
theorem Qg:∀{xs:List V}{is:List Int},jE xs=some is->xs.all flat=true
 | [],_,_=>rfl
 |x::r,is,e=>by
  unfold jE at e;split at e
  ·rename_i e';cases e'
  ·rename_i e';cases e';obtain⟨js,e1,rfl⟩:=wA.mp e;rw[List.all_cons,Qg e1];rfl
  ·rename_i e';cases e';obtain⟨js,e1,rfl⟩:=wA.mp e;rw[List.all_cons,Qg e1];rfl
  ·cases e
theorem P7{A:Around}{E:Value->Shared->Prop}{prog:Program}{w:World}{s:Shared}{l:Addr}{vs:List Value}{xs:List V}{is:List Int}{Q:Value->Shared->Prop}(hh:A.handled=none)(hl:s.heap.IsList l vs.toArray)(ei:jE xs=some is)(hb:Vals xs vs)
  (h:∀h' tk t',(∀b x,s.heap.get? b=some x->h'.get? b=some x)->Q (.int is.sum t') { s with heap:=h',toks:=tk }):wpAny (model prog w) A (call (.builtin "sum") [.ref l]) Q E s:=by
 have hlt:l<s.heap.objs.size:=by obtain⟨_,e,_⟩:=hl;exact Heap.lt_size e
 obtain⟨hlen,hn⟩:=C8 ei hb;refine call_sum_walkAnyB (wpAny_pyIter_list hl ?_);refine⟨s.heap.objs.size,_,_,_,_,_,_,λi=>is.getD i 0,rfl,(Walks.list (prog:=prog) (w:=w) (A:=A.in1) hh s.heap.objs.size l (wU hlt) vs.toArray).toS,
  ⟨⟨_,Heap.get?_push_size _ rfl,rfl,rfl⟩,hl.push _⟩,λb hb=>?_,λi v hP=>hn i v (by simpa using hP),λs' t' hm=>?_⟩
 ·rcases wP.mp hb with rfl|hb
  ·exact Heap.lt_size (Heap.get?_push_size _ rfl)
  ·obtain rfl:=wY.mp hb;obtain⟨_,e,_⟩:=hl;exact Heap.lt_size (Heap.get?_push_of_some _ e)
 ·obtain⟨h',g',d',tk',os'⟩:=s';have e1:g'=s.gens:=hm.gens;have e2:d'=s.drawn:=hm.drawn;have e3:os'=s.os:=hm.os;subst e1 e2 e3;have e:=preSum_getD is vs.toArray.size;rw[wM,hlen,List.take_of_length_le (wF _),<-hlen,<-wM]at e;rw[e];exact h h' tk' t' λb o e=>hm.heap b o (λhb=>absurd (Heap.lt_size e) ((wY.mp hb) ▸ wf _)) (Heap.get?_push_of_some _ e)
theorem zT:∀{xs:List V}{is:List Int},zO xs=some is->xs=is.map V.int
 | [],is,e=>by cases e;rfl
 | .int i::r,is,e=>by
  simp only[zO]at e;obtain⟨js,e1,rfl⟩:=wA.mp e;rw[zT e1];rfl
 | .non::_,_,e=>by cases e
 | .bl _::_,_,e=>by cases e
 | .str _::_,_,e=>by cases e
 | .ref _::_,_,e=>by cases e
 | .byt _::_,_,e=>by cases e
 | .flt _::_,_,e=>by cases e
 | .ty _::_,_,e=>by cases e
theorem A3{φ:List Addr}:∀{xs:List V},xs.all flat=true->rvs φ xs xs
 | [],_=>.nil
 |x::xs,h=>by
  simp only[List.all_cons,wE]at h;refine .cons ?_ (A3 h.2);cases x<;>first|rfl|exact trivial|(cases h.1)
theorem zt:∀{us:List Value}{ns:List Int},IntsAre us ns->Vals (ns.map V.int) us
 |_,_,.nil=>.nil
 |_,_,.cons n t r=>.cons ⟨_,rfl⟩ (zt r)
theorem jD(is:List Int):(is.map V.int).all flat=true:=by simp[flat]
noncomputable def fnB:BF->Value
 | .len=>.builtin "len" | .sum=>.builtin "sum" | .max=>.builtin "max" | .min=>.builtin "min"
 | .list=>.type "list" | .int=>.type "int" | .bits=>.builtin "int.bit_length" | .maxl=>.builtin "max"
variable (X G) in
def qFB(f:BF):List V->Hp->VK->Prop:=λxs H Q=>∃φ h ws v h',Rl X.K G φ h H/\rvs φ ws xs/\qEn f ws h=.ok (v,h')/\∀φ' H' w,Ext φ φ'->Rl X.K G φ' h' H'->rv φ' v w->Q w H'
def DR(P:Program)(W:World)(h:Heap)(n:Nat)(u:Value)(d:PyData):Prop:=(∃as,Reads h u d as)/\d.depth<=n/\(d.showable=true->d.shown.length<=sizeLine->∃bs,ReadAtMost h d.depth bs/\ReprK P W bs h d.depth u d.shown)
def DRs(P:Program)(W:World)(h:Heap)(n:Nat)(us:List Value)(ds:List PyData):Prop:=(∃as,ReadsAll h us ds as)/\PyData.depthAll ds<=n/\(PyData.showableAll ds=true->(∀t∈PyData.shownAll ds,t.length<=sizeLine)->∃bs,ReadAtMost h (PyData.depthAll ds) bs/\ReprAllK P W bs h (PyData.depthAll ds) us (PyData.shownAll ds))
theorem DR.flat{P:Program}{W:World}{hp:Heap}{n:Nat}{u:Value}{d:PyData}(q:(∃as,Reads hp u d as)/\d.hasDict=false/\d.depth<=0):DR P W hp n u d:=by
 obtain⟨⟨as,q1⟩,q2,q3⟩:=q;exact⟨⟨as,q1⟩,by omega,λhs hz=>ReprK.of_reads q1 hs (λz=>by rw[q2]at z;cases z) hz⟩
theorem DRs.list{P:Program}{W:World}{hp:Heap}{n m:Nat}{p:Addr}{o:Obj}{its:List Value}{ds:List PyData}(q:DRs P W hp n its ds)(ho:hp.get? p=some o)(hc:o.cls=.type "list")(hd:o.data=.seq its.toArray m)(hs:PyData.showableAll ds=true)(hz:(listText (PyData.shownAll ds)).length<=sizeLine):
  ∃bs,ReadAtMost hp (PyData.depthAll ds) bs/\ReprAllK P W bs hp (PyData.depthAll ds) its (PyData.shownAll ds)/\p∉bs:=by
 obtain⟨⟨as,q1⟩,q2,q3⟩:=q;obtain⟨bs,hb,hk⟩:=q3 hs (λt ht=>wH (listText_mem_le ht) hz);exact⟨bs,hb,hk,not_mem_of_deeper (Reads.list ho hc hd (by simpa using q1)) (by simp only[PyData.depth];omega) hb⟩
theorem DRs.tuple{P:Program}{W:World}{hp:Heap}{n m:Nat}{p:Addr}{o:Obj}{its:List Value}{ds:List PyData}(q:DRs P W hp n its ds)(ho:hp.get? p=some o)(hc:o.cls=.type "tuple")(hd:o.data=.seq its.toArray m)(hs:PyData.showableAll ds=true)(hz:(tupleText (PyData.shownAll ds)).length<=sizeLine):
  ∃bs,ReadAtMost hp (PyData.depthAll ds) bs/\ReprAllK P W bs hp (PyData.depthAll ds) its (PyData.shownAll ds)/\p∉bs:=by
 obtain⟨⟨as,q1⟩,q2,q3⟩:=q;obtain⟨bs,hb,hk⟩:=q3 hs (λt ht=>wH (tupleText_mem_le ht) hz);exact⟨bs,hb,hk,not_mem_of_deeper (Reads.tuple ho hc hd (by simpa using q1)) (by simp only[PyData.depth];omega) hb⟩
theorem U2(hc:X.calm=true)(hu:X.A.units+8<cLine)(hgd:X.A.guards=some []):∀f,qe X (fnB f) (qFB X G f):=by
 intro f pins s σ H xs us Q I r ⟨φ,h,ws,v,h',R,rw',e,k⟩;cases f with
 |len=>
  replace e:=QI e;obtain⟨x0,rfl,e⟩:=e;replace e:=zI e;obtain⟨a,rfl,e⟩:=e;split at e
  ·rename_i ys ey;cases e;cases rw' with
   |cons r1 t=>
    cases t;obtain⟨p,rfl,hp⟩:=qI r1;obtain⟨p',zs,hp',hs,rs⟩:=R.its ey;rw[hp]at hp';cases hp';refine _L.call_len_seq pins s σ H _ us Q I r ⟨p,zs,rfl,hs,?_⟩;rw[<-Paired.length rs];exact k φ H _ (.refl _) R rfl
  ·cases e
 |sum=>
  replace e:=QI e;obtain⟨x0,rfl,e⟩:=e;replace e:=zI e;obtain⟨a,rfl,e⟩:=e;split at e
  ·rename_i ys ey;split at e
   ·rename_i is ei;cases e;cases rw' with
    |cons r1 t=>
     cases t;obtain⟨p,rfl,hp⟩:=qI r1;obtain⟨p',zs,hp',hs,rs⟩:=R.lst ey;rw[hp]at hp';cases hp';have hz:=zG (Qg ei) rs;subst hz;obtain⟨its,rv',pl,_⟩:=I.list hs;obtain⟨u,rfl,ru⟩:=_L.vals1 r;cases ru;exact P7 (I.ok.hd hc) pl.isList ei rv' λh1 tk t' hk=>⟨.int is.sum,H,I.kept hk,⟨_,rfl⟩,k φ H _ (.refl _) R rfl⟩
   ·cases e
  ·cases e
 |max=>
  replace e:=two_inv e;obtain⟨x0,y0,rfl,e⟩:=e;replace e:=qq e;obtain⟨i,j,rfl,rfl,e⟩:=e;cases e;cases rw' with
  |cons r1 t=>
   cases t with
   |cons r2 t=>
    cases t;cases qB r1;cases qB r2;exact _L.call_max2 hc pins s σ H _ us Q I r ⟨_,_,rfl,k φ H _ (.refl _) R rfl⟩
 |min=>
  replace e:=two_inv e;obtain⟨x0,y0,rfl,e⟩:=e;replace e:=qq e;obtain⟨i,j,rfl,rfl,e⟩:=e;cases e;cases rw' with
  |cons r1 t=>
   cases t with
   |cons r2 t=>
    cases t;cases qB r1;cases qB r2;exact _L.call_min2 hc pins s σ H _ us Q I r ⟨_,_,rfl,k φ H _ (.refl _) R rfl⟩
 |maxl=>
  replace e:=QI e;obtain⟨x0,rfl,e⟩:=e;replace e:=zI e;obtain⟨a,rfl,e⟩:=e;split at e
  ·rename_i ys ey;split at e
   ·rename_i M eM;cases e;obtain⟨is,ei,em⟩:=wK.mp eM;cases rw' with
    |cons r1 t=>
     cases t;obtain⟨p,rfl,hp⟩:=qI r1;obtain⟨p',zs,hp',hs,rs⟩:=R.lst ey;rw[hp]at hp';cases hp';have hm:=zT ei;subst hm;have hz:=zG (jD is) rs;subst hz;obtain⟨its,rv',pl,_⟩:=I.list hs;obtain⟨u,rfl,ru⟩:=_L.vals1 r;cases ru;exact E9 (I.ok.hd hc) pl.isList (_L.intsAre_of rv') em λh1 tk t' hk=>⟨.int M,H,I.kept hk,⟨_,rfl⟩,k φ H _ (.refl _) R rfl⟩
   ·cases e
  ·cases e
 |bits=>
  replace e:=QI e;obtain⟨x0,rfl,e⟩:=e;split at e
  ·cases e;cases rw' with
   |cons r1 t=>
    cases t;cases qB r1;obtain⟨u,rfl,ru⟩:=_L.vals1 r;obtain⟨t,rfl⟩:=ru;rename_i j;exact call_int_bit_length ⟨.int ((Builtin.Int.intBits j:Nat):Int),H,I.tok _,⟨_,rfl⟩,k φ H _ (.refl _) R rfl⟩
  ·cases e
 |list=>
  replace e:=QI e;obtain⟨x0,rfl,e⟩:=e;replace e:=zI e;obtain⟨a,rfl,e⟩:=e;split at e
  ·rename_i ys ey;cases e;cases rw' with
   |cons r1 t=>
    cases t;obtain⟨p,rfl,hp⟩:=qI r1;obtain⟨p',zs,hp',hs,rs⟩:=R.its ey;rw[hp]at hp';cases hp';exact _L.call_list_of pins s σ H _ us Q I r ⟨p,zs,rfl,hs,λl hl=>k (φ++[l]) _ _ ⟨[l],rfl⟩ (R.newL hl rs) R.lastRef⟩
  ·cases e
 |int=>
  replace e:=QI e;obtain⟨x0,rfl,e⟩:=e;split at e
  ·cases e;cases rw' with
   |cons r1 t=>
    cases t;cases qB r1;exact _L.call_int1 pins s σ H _ us Q I r (.inl ⟨_,rfl,k φ H _ (.refl _) R rfl⟩)
  ·cases e;cases rw' with
   |cons r1 t=>
    cases t;cases qx r1;exact _L.call_int1 pins s σ H _ us Q I r (.inr ⟨_,rfl,k φ H _ (.refl _) R rfl⟩)
  ·cases e
end
open AutoSeq1 (wpAny_loadPart')
open MeetsSeq MeetsSeq2 MeetsSeq3 SeqRoads2
theorem qBd{M:Model}{A:Around}{E:Value->Shared->Prop}{s:Shared}{β:Type}{n:Nat}(f:Nat->β->Sem (ForInStep β))(I:List Nat->β->Shared->Prop)(Q:β->Shared->Prop)
  (qAO:∀x jP b s,I (x::jP) b s->wpAny M A (f x b) (λr s'=>match r with | .yield b'=>I jP b' s' | .done b'=>Q b' s') E s)
  (fin:∀b s,I [] b s->Q b s) (b:β) (h:I (List.range' 0 n) b s):wpAny M A (forIn [0:n] b f) Q E s:=by
 rw[Std.Legacy.Range.forIn_eq_forIn_range'];have e:(List.range' 0 ([0:n]:Std.Legacy.Range).size)=List.range' 0 n:=by simp[Std.Legacy.Range.size]
 exact wpAny_forIn_list f I Q qAO fin _ b (by simpa [Std.Legacy.Range.size] using h)
theorem tuple_indexAt(l:Addr)(items:Array Value)(n:Nat)(dd:Option Addr)(sl:Array (Option Value))(x:Value)(e:Value->Bool)(j:Nat)(hj:j<items.size)
  (hit:e items[j]=true) (hno:∀m (hm:m<items.size),m<j->e items[m]=false):
  Meets (Builtin.«tuple.index» ⟨[.ref l,x],[]⟩)
   (λA R s=>s.heap.get? l=some { cls:=.type "tuple",dict:=dd,data:=.seq items n,slots:=sl }/\(∀y,y∈items->EqAt A.in1 s y x (e y))/\R (.ok (.ret (.int j s.toks))) { s with toks:=s.toks+1 }):=
 .of_wp λprog w A R s h=>by
  obtain⟨hp,g,d,tk,os⟩:=s;obtain⟨hl,he,h⟩:=h
  wp_walk using wpAny_loadPart' hl,qBd _ (λjP b s'=>b.1=none/\s'=⟨hp,g,d,tk,os⟩/\∃i,i<=j/\jP=List.range' i (items.size-i)) _
  case qAO=>
   rintro i jP b s' ⟨hb,rfl,i',hi,hr⟩;have hz:items.size-i'≠0:=by omega
   obtain⟨z,hz⟩:∃z,items.size-i'=z+1:=⟨items.size-i' - 1,by omega⟩
   rw[hz,vp]at hr;cases hr;have hlt:i<items.size:=by omega
   have hg:items[i]?=some items[i]:=Array.getElem?_eq_getElem hlt;dsimp only;rw[hg];refine uD (he _ (Array.getElem_mem hlt) prog w _ _ ?_);by_cases hij:i=j
   ·subst hij;rw[hit]
    wp_walk
    exact⟨_,rfl,h⟩
   ·rw[hno i hlt (by omega)]
    wp_walk
    exact⟨rfl,rfl,i+1,by omega,by congr 1;omega⟩
  case fin=>
   rintro⟨b1,b2⟩ s' ⟨hb,rfl,i,hi,hr⟩;have:(List.range' i (items.size-i)).length=0:=by rw[<-hr];rfl
   rw[List.length_range']at this;omega
  case h=>
   refine⟨rfl,rfl,0,vM _,?_⟩;simp
open _L (PW)
theorem zu{r:RV}{b:Bool}{h:AH}(e:asB r=.ok (b,h)):r=.ok (.bl b,h):=by
 unfold asB at e;obtain⟨⟨v,h1⟩,e1,e2⟩:=tK e;dsimp only at e2;split at e2
 ·cases e2;exact e1
 ·cases e2
theorem G5{r:RV}{b:Bool}{h:AH}(e:r=.ok (.bl b,h)):asB r=.ok (b,h):=by
 subst e;rfl
section
variable{X:Cx}{G:List Addr}{F:Nat->List V->AH->RV}{a b c:E}{as:Es}{ea eb ec:Expr}{es:List Expr}{pos:Pos}
theorem JG{K:PySem.W.Frag}{σ:St}{H:Hp}{Q:Bool->Hp->Prop}(q:tT K G F a σ H Q):tE K G F a σ H (λx H'=>∃k,x=.bl k/\Q k H'):=by
 obtain⟨φ,h,σa,b,h',R,rs,e,k⟩:=q;exact⟨φ,h,σa,.bl b,h',R,rs,zu e,λφ' H' w x' R' r'=>⟨b,qx r',k φ' H' x' R'⟩⟩
theorem qP(h:SE X G F ea a)(he:∀whole,isTrue ea X.env whole=(do let v <- whole;standAt ea.pos;holding [v] (truthy v))):ST X G F ea a:=
 u7 (_L.pt_val h he) λ_ _ _ q=>JG q
theorem qAD{op:COp}{σc:St}{H:Hp}{Q:VK}(q:tE X.K G F (.cmp op a b) σc H Q):_L.tOp (qD6 X G op) (tE X.K G F a) (tE X.K G F b) σc H Q:=by
 obtain⟨φ,h,σ,v,h',R,rs,e,k⟩:=q;unfold ev at e;obtain⟨⟨x,h1⟩,e1,e⟩:=tK e;obtain⟨⟨y,h2⟩,e2,e⟩:=tK e;refine jc R rs e1 e2 λφ2 H2 xc yc x2 R2 r1 r2=>?_;unfold qB7 at e;dsimp only at e;split at e
 ·rename_i t et;cases e;exact⟨φ2,_,x,y,t,R2,r1,r2,et,k φ2 H2 _ x2 R2 rfl⟩
 ·cases e
theorem qDV{op:COp}(hu:X.A.units+8<cLine)(ha:SE X G F ea a)(hb:SE X G F eb b)(hm:behindInMarks (opC op) eb=false):SE X G F (.Compare ea [opC op] [eb] pos) (.cmp op a b):=
 qc (_L.pe_cmpR (jz hu op) ha hb hm) λ_ _ _=>qAD
theorem qDq{op:COp}(hu:X.A.units+8<cLine)(ha:SE X G F ea a)(hb:SE X G F eb b)(hm:behindInMarks (opC op) eb=false):ST X G F (.Compare ea [opC op] [eb] pos) (.cmp op a b):=
 u7 (_L.pt_cmpR (jz hu op) ha hb hm) λ_ _ _ q=>qAD (JG q)
theorem K9{o1 o2:COp}{σc:St}{H:Hp}{Q:VK}(q:tE X.K G F (.cmp2 o1 o2 a b c) σc H Q):_L.tChain (qD6 X G o1) (qD6 X G o2) (tE X.K G F a) (tE X.K G F b) (tE X.K G F c) σc H Q:=by
 obtain⟨φ,h,σ,v,h',R,rs,e,k⟩:=q;unfold ev at e;obtain⟨⟨x,h1⟩,e1,e⟩:=tK e;obtain⟨⟨y,h2⟩,e2,e⟩:=tK e;refine jc R rs e1 e2 λφ2 H2 xc yc x2 R2 r1 r2=>?_;dsimp only at e;split at e
 ·rename_i et;refine⟨φ2,_,x,y,true,R2,r1,r2,et,true,rfl,?_⟩;rw[if_pos rfl];obtain⟨⟨z,h3⟩,e3,e⟩:=tK e;refine⟨φ2,_,σ,z,h3,R2,rst.mono x2 rs,e3,λφ3 H3 zc x3 R3 r3=>?_⟩;unfold qB7 at e;dsimp only at e;split at e
  ·rename_i t et;cases e;exact⟨φ3,_,y,z,t,R3,rv.mono x3 r2,r3,et,k φ3 H3 _ (x2.trans x3) R3 rfl⟩
  ·cases e
 ·rename_i et;cases e;refine⟨φ2,_,x,y,false,R2,r1,r2,et,false,rfl,?_⟩;rw[if_neg (by decide)];exact k φ2 H2 _ x2 R2 rfl
 ·cases e
theorem v4{o1 o2:COp}(hu:X.A.units+8<cLine)(ha:SE X G F ea a)(hb:SE X G F eb b)(hc:SE X G F ec c)(hm:lastMarks [opC o1,opC o2] [eb,ec]=false):SE X G F (.Compare ea [opC o1,opC o2] [eb,ec] pos) (.cmp2 o1 o2 a b c):=
 qc (_L.pe_chain (jz hu o1) (jz hu o2) ha hb hc hm) λ_ _ _=>K9
theorem j3{o1 o2:COp}(hu:X.A.units+8<cLine)(ha:SE X G F ea a)(hb:SE X G F eb b)(hc:SE X G F ec c)(hm:lastMarks [opC o1,opC o2] [eb,ec]=false):ST X G F (.Compare ea [opC o1,opC o2] [eb,ec] pos) (.cmp2 o1 o2 a b c):=
 u7 (_L.pt_chain (jz hu o1) (jz hu o2) ha hb hc hm) λ_ _ _ q=>K9 (JG q)
theorem qBb{σc:St}{H:Hp}{Q:VK}(q:tE X.K G F (.and a b) σc H Q):_L.tAndV (tE X.K G F a) (tE X.K G F b) σc H Q:=by
 obtain⟨φ,h,σ,v,h',R,rs,e,k⟩:=q;unfold ev at e;obtain⟨⟨x,h1⟩,e1,e⟩:=tK e;refine⟨φ,h,σ,.bl x,h1,R,rs,zu e1,λφ1 H1 w x1 R1 r1=>⟨x,qx r1,?_⟩⟩;dsimp only at e;cases x with
 |true=>
  rw[if_pos rfl]at e ⊢;exact⟨φ1,h1,σ,v,h',R1,rst.mono x1 rs,e,λφ2 H2 w2 x2 R2 r2=>k φ2 H2 w2 (x1.trans x2) R2 r2⟩
 |false=>
  rw[if_neg (by decide)]at e ⊢;cases e;exact k φ1 H1 _ x1 R1 rfl
theorem qC0{σc:St}{H:Hp}{Q:VK}(q:tE X.K G F (.or a b) σc H Q):_L.tOrV (tE X.K G F a) (tE X.K G F b) σc H Q:=by
 obtain⟨φ,h,σ,v,h',R,rs,e,k⟩:=q;unfold ev at e;obtain⟨⟨x,h1⟩,e1,e⟩:=tK e;refine⟨φ,h,σ,.bl x,h1,R,rs,zu e1,λφ1 H1 w x1 R1 r1=>⟨x,qx r1,?_⟩⟩;dsimp only at e;cases x with
 |false=>
  rw[if_neg (by decide)]at e ⊢;exact⟨φ1,h1,σ,v,h',R1,rst.mono x1 rs,e,λφ2 H2 w2 x2 R2 r2=>k φ2 H2 w2 (x1.trans x2) R2 r2⟩
 |true=>
  rw[if_pos rfl]at e ⊢;cases e;exact k φ1 H1 _ x1 R1 rfl
theorem qCW{σc:St}{H:Hp}{Q:Bool->Hp->Prop}(q:tT X.K G F (.and a b) σc H Q):_L.tAnd (tT X.K G F a) (tT X.K G F b) σc H Q:=by
 obtain⟨φ,h,σ,t,h',R,rs,e,k⟩:=q;have e:=zu e;unfold ev at e;obtain⟨⟨x,h1⟩,e1,e⟩:=tK e;refine⟨φ,h,σ,x,h1,R,rs,e1,λφ1 H1 x1 R1=>?_⟩;dsimp only at e;cases x with
 |true=>
  rw[if_pos rfl]at e ⊢;exact⟨φ1,h1,σ,t,h',R1,rst.mono x1 rs,G5 e,λφ2 H2 x2 R2=>k φ2 H2 (x1.trans x2) R2⟩
 |false=>
  rw[if_neg (by decide)]at e ⊢;cases e;exact k φ1 H1 x1 R1
theorem qEj{σc:St}{H:Hp}{Q:Bool->Hp->Prop}(q:tT X.K G F (.or a b) σc H Q):_L.tOr (tT X.K G F a) (tT X.K G F b) σc H Q:=by
 obtain⟨φ,h,σ,t,h',R,rs,e,k⟩:=q;have e:=zu e;unfold ev at e;obtain⟨⟨x,h1⟩,e1,e⟩:=tK e;refine⟨φ,h,σ,x,h1,R,rs,e1,λφ1 H1 x1 R1=>?_⟩;dsimp only at e;cases x with
 |false=>
  rw[if_neg (by decide)]at e ⊢;exact⟨φ1,h1,σ,t,h',R1,rst.mono x1 rs,G5 e,λφ2 H2 x2 R2=>k φ2 H2 (x1.trans x2) R2⟩
 |true=>
  rw[if_pos rfl]at e ⊢;cases e;exact k φ1 H1 x1 R1
variable (X G F) in
abbrev SW(e:Expr)(a:E):Prop:=PW X e (tT X.K G F a)
theorem qCs{e:Expr}{t t':TT}(h:PW X e t)(w:∀σ H Q,t' σ H Q->t σ H Q):PW X e t':=λwh pins s σ H Q I q=>h wh pins s σ H Q I (w σ H Q q)
theorem qDs{jP:List Expr}(ha:SE X G F ea a)(hb:SE X G F (.BoolOp .And (eb::jP) pos) b):SE X G F (.BoolOp .And (ea::eb::jP) pos) (.and a b):=qc (_L.pe_and ha hb) λ_ _ _=>qBb
theorem qEy{jP:List Expr}(ha:SE X G F ea a)(hb:SE X G F (.BoolOp .Or (eb::jP) pos) b):SE X G F (.BoolOp .Or (ea::eb::jP) pos) (.or a b):=qc (_L.pe_or ha hb) λ_ _ _=>qC0
theorem qCh{jP:List Expr}(ha:ST X G F ea a)(hb:SW X G F (.BoolOp .And (eb::jP) pos) b):SW X G F (.BoolOp .And (ea::eb::jP) pos) (.and a b):=qCs (_L.pw_and ha hb) λ_ _ _=>qCW
theorem qED{jP:List Expr}(ha:ST X G F ea a)(hb:SW X G F (.BoolOp .Or (eb::jP) pos) b):SW X G F (.BoolOp .Or (ea::eb::jP) pos) (.or a b):=qCs (_L.pw_or ha hb) λ_ _ _=>qEj
theorem qC7(ha:SE X G F ea a):SE X G F (.UnaryOp .Not ea pos) (.not a):=by
 refine qc (_L.pe_not ha) λσc H Q q=>?_;obtain⟨φ,h,σ,v,h',R,rs,e,k⟩:=q;unfold ev at e;obtain⟨⟨x,h1⟩,e1,e⟩:=tK e;cases e;exact⟨φ,h,σ,.bl x,_,R,rs,zu e1,λφ1 H1 w x1 R1 r1=>⟨x,qx r1,k φ1 H1 _ x1 R1 rfl⟩⟩
theorem qDo(ha:ST X G F ea a):ST X G F (.UnaryOp .Not ea pos) (.not a):=by
 refine u7 (_L.pt_not ha) λσc H Q q=>?_;obtain⟨φ,h,σ,t,h',R,rs,e,k⟩:=q;have e:=zu e;unfold ev at e;obtain⟨⟨x,h1⟩,e1,e⟩:=tK e;cases e;exact⟨φ,h,σ,x,_,R,rs,e1,λφ1 H1 x1 R1=>k φ1 H1 x1 R1⟩
theorem qDB(hc:ST X G F ec c)(ha:SE X G F ea a)(hb:SE X G F eb b):SE X G F (.IfExp ec ea eb pos) (.ite c a b):=by
 refine qc (_L.pe_ifExp hc ha hb) λσc H Q q=>?_;obtain⟨φ,h,σ,v,h',R,rs,e,k⟩:=q;unfold ev at e;obtain⟨⟨x,h1⟩,e1,e⟩:=tK e;refine⟨φ,h,σ,x,h1,R,rs,e1,λφ1 H1 x1 R1=>?_⟩;dsimp only at e;cases x with
 |true=>
  rw[if_pos rfl]at e ⊢;exact⟨φ1,h1,σ,v,h',R1,rst.mono x1 rs,e,λφ2 H2 w2 x2 R2 r2=>k φ2 H2 w2 (x1.trans x2) R2 r2⟩
 |false=>
  rw[if_neg (by decide)]at e ⊢;exact⟨φ1,h1,σ,v,h',R1,rst.mono x1 rs,e,λφ2 H2 w2 x2 R2 r2=>k φ2 H2 w2 (x1.trans x2) R2 r2⟩
theorem qDc(hc:ST X G F ec c)(ha:ST X G F ea a)(hb:ST X G F eb b):ST X G F (.IfExp ec ea eb pos) (.ite c a b):=by
 intro pins s σc H Q I q;obtain⟨φ,h,σ,t,h',R,rs,e,k⟩:=q;have e:=zu e;unfold ev at e;obtain⟨⟨x,h1⟩,e1,e⟩:=tK e;refine isTrue_IfExp (_L.thn (hc pins s σc H (λz H1=>(z=true->tT X.K G F a σc H1 Q)/\(z=false->tT X.K G F b σc H1 Q)) I ⟨φ,h,σ,x,h1,R,rs,e1,λφ1 H1 x1 R1=>?_⟩) λz s1 ⟨H1,I1,q1,q2⟩=>?_)
 ·dsimp only at e;cases x with
  |true=>
   rw[if_pos rfl]at e;exact⟨λ_=>⟨φ1,h1,σ,t,h',R1,rst.mono x1 rs,G5 e,λφ2 H2 x2 R2=>k φ2 H2 (x1.trans x2) R2⟩,λz=>nomatch z⟩
  |false=>
   rw[if_neg (by decide)]at e;exact⟨(λz=>nomatch z),λ_=>⟨φ1,h1,σ,t,h',R1,rst.mono x1 rs,G5 e,λφ2 H2 x2 R2=>k φ2 H2 (x1.trans x2) R2⟩⟩
 ·cases z with
  |true=>exact ha pins s1 σc H1 Q I1 (q1 rfl)
  |false=>exact hb pins s1 σc H1 Q I1 (q2 rfl)
noncomputable def qS:Expr->Bool
 | .Starred ..=>false
 |_=>true
theorem qA{e:Expr}{env:Env}(h:qS e=true):starEach (e::es) env=(false,eval e env)::starEach es env:=by
 cases e<;>first|rfl|cases h
theorem jd{env:Env}:∀{es:List Expr},es.all qS=true->(backTo pos (starEach es env)).any (·.1)=false
 | [],_=>rfl
 |e::es,h=>by
  simp only[List.all_cons,wE]at h;rw[qA h.1];show (false||(backTo pos (starEach es env)).any (·.1))=false;rw[jd h.2];rfl
theorem S2:SA X G F [] .nil:=by
 refine qDy _L.pa_nil λσc H Q q=>?_;obtain⟨φ,h,σ,v,h',R,rs,e,k⟩:=q;unfold evs at e;cases e;exact k φ H [] (.refl _) R .nil
theorem E6(hn:qS ea=true)(ha:SE X G F ea a)(hr:SA X G F es as):SA X G F (ea::es) (.cons a as):=by
 refine qDy (_L.pa_cons ha hr (qA hn)) λσc H Q q=>?_;obtain⟨φ,h,σ,v,h',R,rs,e,k⟩:=q;unfold evs at e;obtain⟨⟨x,h1⟩,e1,e⟩:=tK e;obtain⟨⟨xs,h2⟩,e2,e⟩:=tK e;cases e;exact⟨φ,h,σ,x,h1,R,rs,e1,λφ1 H1 w x1 R1 r1=>⟨φ1,h1,σ,xs,_,R1,rst.mono x1 rs,e2,λφ2 H2 ws x2 R2 r2=>k φ2 H2 _ (x1.trans x2) R2 (.cons (rv.mono x2 r1) r2)⟩⟩
theorem qCa(h:SA X G F es as):SE X G F (.List es pos) (.lst as):=by
 refine qc (_L.pe_lst h) λσc H Q q=>?_;obtain⟨φ,h,σ,v,h',R,rs,e,k⟩:=q;unfold ev at e;obtain⟨⟨xs,h1⟩,e1,e⟩:=tK e;refine⟨φ,h,σ,xs,h1,R,rs,e1,λφ1 H1 ws x1 R1 r1=>?_⟩;dsimp only at e;split at e
 ·rename_i hl;cases e;refine⟨by rw[<-Paired.length r1];exact wH hl Qh,λp hp=>k (φ1++[p]) _ _ (x1.trans ⟨[p],rfl⟩) (R1.newL hp r1) R1.lastRef⟩
 ·cases e
theorem a7:SE X G F (.Dict [] [] pos) .dnew:=by
 intro pins s σc H Q I q;obtain⟨φ,h,σ,v,h',R,rs,e,k⟩:=q;unfold ev at e;cases e;have hbig:sysModules<s.heap.objs.size:=wx (by decide) (I.mod.glob.keeps I.bk).lt;have hn:=I.hok.fresh (wF s.heap.objs.size);exact wpAny_Dict_empty ⟨.ref s.heap.objs.size,_,I.laid (a:=s.heap.objs.size) (o:=.dK []) (t':=s.toks) (λ_ _ q=>Heap.get?_push_of_some _ q) (wF _)
  ⟨vM _,beq_eq_false_iff_ne.mpr (Ne.symm (wU hbig)),[],.nil,Heap.DictOf.new s.heap⟩,rfl,
  k (φ++[s.heap.objs.size]) _ _ ⟨[s.heap.objs.size],rfl⟩ (R.new hn (o:=.ob (.dct [])) ⟨[],qD,.nil⟩) R.lastRef⟩
theorem qAt {x1}(h:SA X G F es as):SE X G F (.Tuple es x1 pos) (.tup as):=by
 refine qc (_L.pe_tup h) λσc H Q q=>?_;obtain⟨φ,h,σ,v,h',R,rs,e,k⟩:=q;unfold ev at e;obtain⟨⟨xs,h1⟩,e1,e⟩:=tK e;refine⟨φ,h,σ,xs,h1,R,rs,e1,λφ1 H1 ws x1 R1 r1=>?_⟩;dsimp only at e;split at e
 ·rename_i hl;cases e;refine⟨by rw[<-Paired.length r1];exact wH hl Qh,λp hp=>k (φ1++[p]) _ _ (x1.trans ⟨[p],rfl⟩) (R1.newT hp r1) R1.lastRef⟩
 ·cases e
variable (G F) in
noncomputable def spF(K:PySem.W.Frag)(f:Nat):_L.Sp:=λvs H Q _=>∃φ h ws v h',Rl K G φ h H/\rvs φ ws vs/\F f ws h=.ok (v,h')/\∀φ' H' w,Ext φ φ'->Rl K G φ' h' H'->rv φ' v w->Q w H'
variable (X G F) in
structure FnS(f:Nat)(x:Str):Prop where
 ex:∃k fa fd ps,_L.FnOk X.prog X.w X.K X.mg X.base _L.CX0 k fa fd ps (spF G F X.K f)/\_L.Room k X.A/\X.mg x=some (.ref fa)/\PySem.W.keepIn X.K (.ref fa)=true/\_L.Binds X.K fd ps []/\_L.Room k X.A.in1
theorem T2{f:Nat}{σc:St}{H:Hp}{Q:VK}(q:tE X.K G F (.call f as) σc H Q):_L.tCall (spF G F X.K f) [] _L.E0 (tL X.K G F as) σc H Q:=by
 obtain⟨φ,h,σ,v,h',R,rs,e,k⟩:=q;unfold ev at e;obtain⟨⟨xs,h1⟩,e1,e⟩:=tK e;refine⟨φ,h,σ,xs,h1,R,rs,e1,λφ1 H1 ws x1 R1 r1=>?_⟩;have e:F f xs h1=.ok (v,h'):=by
  have e:(F f xs h1).nx=.ok (v,h'):=e;revert e;generalize F f xs h1=r;cases r<;>intro e<;>first|exact e|cases e
 refine⟨φ1,h1,xs,v,h',R1,by rw[wX];exact r1,e,λφ2 H2 w x2 R2 r2=>k φ2 H2 w (x1.trans x2) R2 r2⟩
theorem qBk{f:Nat}{x:Str}{p:Pos}(hf:FnS X G F f x)(hg:_L.Gl X x)(hd:(x==("__debug__":Str))=false)(hn:qS ea=true)(hs:es.all qS=true)(ha:SA X G F (ea::es) as):SE X G F (.Call (.Name x p) (ea::es) [] pos) (.call f as):=by
 obtain⟨k,fa,fd,ps,h1,h2,h3,h4,h5,_⟩:=hf.ex;exact qc (_L.pe_call h1 h2 hg h3 h4 h5 .nil _L.pass0 ha hd (qA hn) (jd hs)) λ_ _ _=>T2
theorem m5{f:Nat}{x:Str}{p:Pos}(hf:FnS X G F f x)(hg:_L.Gl X x)(hd:(x==("__debug__":Str))=false):SE X G F (.Call (.Name x p) [] [] pos) (.call f .nil):=by
 obtain⟨k,fa,fd,ps,h1,h2,h3,h4,h5,_⟩:=hf.ex;refine qc (_L.pe_call0 h1 h2 hg h3 h4 h5 .nil _L.pass0 hd) λσc H Q q=>?_;obtain⟨φ,h,σ,vs,h',R,rs,e,k⟩:=T2 q;unfold evs at e;cases e;exact k φ H [] (.refl _) R .nil
theorem qAu{f:BF}{σc:St}{H:Hp}{Q:VK}(q:tE X.K G F (.blt f as) σc H Q):_L.tCB (qFB X G f) (tL X.K G F as) σc H Q:=by
 obtain⟨φ,h,σ,v,h',R,rs,e,k⟩:=q;unfold ev at e;obtain⟨⟨xs,h1⟩,e1,e⟩:=tK e;exact⟨φ,h,σ,xs,h1,R,rs,e1,λφ1 H1 ws x1 R1 r1=>⟨φ1,h1,xs,v,h',R1,r1,e,λφ2 H2 w x2 R2 r2=>k φ2 H2 w (x1.trans x2) R2 r2⟩⟩
theorem qC6{f:BF}{x:Str}{p:Pos}(hc:X.calm=true)(hu:X.A.units+8<cLine)(hgd:X.A.guards=some [])(hg:_L.Gl X x)(hm:X.mg x=none)(hv:bootBuiltins x=some (fnB f))(hn:qS ea=true)(hs:es.all qS=true)(ha:SA X G F (ea::es) as)
  (h1:x≠"__name__") (h2:(x==("__debug__":Str))=false):SE X G F (.Call (.Name x p) (ea::es) [] pos) (.blt f as):=by
 have rule:=U2 (G:=G) hc hu hgd f;cases f
 all_goals first
  |exact qc (_L.pe_callB rule hg hm hv ha h1 h2 (qA hn) (jd hs)) λ_ _ _=>qAu
  |exact qc (_L.pe_callTy rule hg hm hv ha h1 h2 (qA hn) (jd hs)) λ_ _ _=>qAu
noncomputable def Jz(t:String):Bool:=t=="int"||t=="bool"||t=="list"||t=="tuple"||t=="str"||t=="dict"
theorem ZP(K:PySem.W.Frag):∀{t c:String},(t="NoneType"\/t="bool"\/t="int"\/t="str"\/t="list"\/t="tuple"\/t="dict")->Jz c=true->PySem.W.kitOne K (.type t) (.type c)=some (QW t c):=by
 intro t c ht hc;have hc':c="int"\/c="bool"\/c="list"\/c="tuple"\/c="str"\/c="dict":=by
  simp only[Jz,va,beq_iff_eq]at hc;rcases hc with((((h|h)|h)|h)|h)|h<;>simp[h]
 rcases ht with rfl|rfl|rfl|rfl|rfl|rfl|rfl<;>rcases hc' with rfl|rfl|rfl|rfl|rfl|rfl<;>kernel_rfl
variable (X G) in
def qF9(c:String):List V->Hp->VK->Prop:=λxs H Q=>∃φ h xa x t,xs=[x,.ty c]/\Rl X.K G φ h H/\rv φ xa x/\zi h xa=some t/\Q (.bl (QW t c)) H
theorem V5{c:String}(hc:Jz c=true):qe X (.builtin "isinstance") (qF9 X G c):=by
 intro pins s σ H xs us Q I r ⟨φ,h,xa,x,t,e,R,rx,ht,q⟩;subst e;obtain⟨u,u2,rfl,r1,r2⟩:=_L.vals2 r;cases (show u2=Value.type c from r2);have fin:∀tk,EP X pins σ Q (.bool (QW t c)) { s with toks:=tk }:=λtk=>⟨.bl (QW t c),H,I.tok tk,rfl,q⟩
 cases xa with
 |non=>cases ql rx;cases r1;cases ht;exact PySem.W.kia_one PySem.W.kitx_none I.kIn True.intro (ZP _ (by simp) hc) (λz=>nomatch z) fin
 |bl i=>cases qx rx;cases r1;cases ht;exact PySem.W.kia_one PySem.W.kitx_bool I.kIn True.intro (ZP _ (by simp) hc) (λz=>nomatch z) fin
 |int i=>cases qB rx;obtain⟨t',rfl⟩:=r1;cases ht;exact PySem.W.kia_one PySem.W.kitx_int I.kIn True.intro (ZP _ (by simp) hc) (λz=>nomatch z) fin
 |str i=>cases zF rx;obtain⟨t',rfl⟩:=r1;cases ht;exact PySem.W.kia_one PySem.W.kitx_str I.kIn True.intro (ZP _ (by simp) hc) (λz=>nomatch z) fin
 |ref i=>
  obtain⟨p,rfl,hp⟩:=qI rx;cases r1;cases ey:h[i]? with
  |none=>rw[show zi h (.ref i)=none by simp only[zi,ey]]at ht;cases ht
  |some o=>
   cases o with
   |lst fz ys=>
    rw[show zi h (.ref i)=some "list" by simp only[zi,ey]]at ht;cases ht;obtain⟨p',zs,hp',hs,rs⟩:=R.lst (i:=i) (xs:=ys) (by unfold qL;rw[ey]);rw[hp]at hp';cases hp';obtain⟨its,_,pl,_⟩:=I.list hs;obtain⟨o,ho,hcl,_⟩:=pl.isList;exact PySem.W.kia_one PySem.W.kitx_list I.kIn ⟨o,ho,hcl⟩ (ZP _ (by simp) hc) (λz=>nomatch z) fin
   |tup ys=>
    rw[show zi h (.ref i)=some "tuple" by simp only[zi,ey]]at ht;cases ht;obtain⟨p',zs,hp',hs,rs⟩:=R.tup (i:=i) (xs:=ys) (by unfold qT;rw[ey]);rw[hp]at hp';cases hp';obtain⟨its,_,pl,_⟩:=I.tuple hs;obtain⟨o,ho,hcl,_⟩:=pl;exact PySem.W.kia_one PySem.W.kitx_tuple I.kIn ⟨o,ho,hcl⟩ (ZP _ (by simp) hc) (λz=>nomatch z) fin
   |ob ks=>
    cases ks with
    |exn c=>rw[show zi h (.ref i)=none by simp only[zi,ey]]at ht;cases ht
    |dct kvs=>
     rw[show zi h (.ref i)=some "dict" by simp only[zi,ey]]at ht;cases ht;obtain⟨p',hp',ks2,hs,_⟩:=R.at ey;rw[hp]at hp';cases hp';obtain⟨_,_,vs,_,o,es,ep,h1,h2,_⟩:=(show _L.ObjOk X.prog X.w H s.heap p (.dK (ks2.map kk)) from I.hok p _ hs)
     exact PySem.W.kia_one PySem.W.kitx_dict I.kIn ⟨o,h1,h2.1⟩ (ZP _ (by simp) hc) (λz=>nomatch z) fin
 |_=>cases ht
theorem qDl{c:String}{xc:Str}{p pc:Pos}(hc:Jz c=true)(hg:_L.Gl X "isinstance")(hm:X.mg "isinstance"=none)(hgc:_L.Gl X xc)(hmc:X.mg xc=none)(hvc:bootBuiltins xc=some (.type c))(hn1:xc≠"__name__")(hn2:(xc==("__debug__":Str))=false)
  (hn:qS ea=true) (ha:SE X G F ea a):SE X G F (.Call (.Name "isinstance" p) [ea,.Name xc pc] [] pos) (.isi a [c]):=by
 refine qc (_L.pe_callB (V5 (G:=G) hc) hg hm PyProof.Rows.boot_isinstance (_L.pa_cons ha (_L.pa_cons (_L.pe_bltn (v:=.ty c) hgc hmc hvc rfl hn1 hn2) _L.pa_nil rfl) (qA hn)) (by decide) (by decide) (qA hn) rfl) λσc H Q q=>?_;obtain⟨φ,h,σ,v,h',R,rs,e,k⟩:=q;unfold ev at e;obtain⟨⟨x,h1⟩,e1,e⟩:=tK e;refine⟨φ,h,σ,x,h1,R,rs,e1,λφ1 H1 w x1 R1 r1=>?_⟩;dsimp only at e;split at e
 ·rename_i t et;cases e;refine⟨φ1,_,x,w,t,rfl,R1,r1,et,?_⟩;have:=k φ1 H1 (.bl ([c].any (QW t))) x1 R1 rfl;simpa using this
 ·cases e
noncomputable def jw:Expr->Bool
 | .Slice ..=>false
 |_=>true
theorem Zo{e:Expr}(h:jw e=true):_L.PlainIx e:=by
 intro o i;cases e<;>first|rfl|cases h
theorem qEP(hu:X.A.units+8<cLine):_L.IxR X (λx y H Q=>∃a v,x=.ref a/\_L.DGet H a y (some v)/\Q v H):=by
 intro value slice pins s σ H x y v u Q I rx ry ⟨a,z,ex,g,q⟩ hs;subst ex;cases rx;have hT:=_L.dict_typeIs I g;unfold subscriptTail;refine uD ?_;rw[getitemInPython_of_ne hT.not_modules];refine uD (wpAny_specialOf hT PySem.F.slot_dict_getitem.lookup ?_);have fin:wpAny (model X.prog X.w) X.A (subscripted slice false (.ref a) u) (λr s₃=>wpAny (model X.prog X.w) X.A (letTemporaryGo value (.ref a) r >>=λ_=>pure r) (EP X pins σ Q) X.xe s₃) X.xe s:=by
  rw[hs];exact wpAny_operating (_L.thn (_L.d_getItem (by omega) I g ry (Q:=EP X pins σ Q) λw' s3 I3 rw'=>⟨z,H,I3,rw',q⟩) λr s₃ h₃=>uD (wpAny_letTemporaryGo (uE h₃)))
 first
  |exact uE (uD fin)
  |exact uD (uE (uD fin))
  |exact uD fin
theorem qBH(kvs:List (Int×V))(i:Int):_L.valV (kvs.map kk) (Sum.inl i)=m4 kvs i:=by
 unfold m4
 induction kvs with
 |nil=>rfl
 |cons p r ih=>
  rw[List.map_cons];by_cases h:p.1=i
  ·rw[_L.valV_pos (show (kk p).1=Sum.inl i by unfold kk;rw[h]),List.find?_cons,uG h];rfl
  ·rw[_L.valV_neg (λz=>h (Sum.inl.inj z)),ih,List.find?_cons,uF h]
theorem qCl(hb':jw eb=true)(ha:SE X G F ea a)(hb:SE X G F eb b):SE X G F (.Subscript ea eb pos) (.idx a b):=by
 refine qc (_L.pe_ix (_L.ix_list.or _L.ix_tup) ha hb (Zo hb')) λσc H Q q=>?_;obtain⟨φ,h,σ,v,h',R,rs,e,k⟩:=q;unfold ev at e;obtain⟨⟨x,h1⟩,e1,e⟩:=tK e;obtain⟨⟨y,h2⟩,e2,e⟩:=tK e;refine jc R rs e1 e2 λφ2 H2 xc yc x2 R2 r1 r2=>?_;cases x with
 |ref p=>
  cases y with
  |int i=>
   dsimp only at e;split at e
   ·rename_i xs ex;split at e
    ·rename_i w ew;cases e;obtain⟨p',zs,hp',hs,rs'⟩:=R2.its ex;obtain⟨q,rfl,hq⟩:=qI r1;rw[hp']at hq;cases hq;cases qB r2;obtain⟨j,ej,ew⟩:=wK.mp ew;obtain⟨w',hw',rw'⟩:=qK rs' ew;have hat:_L.atI zs i=some w':=by
      unfold _L.atI;rw[<-Paired.length rs'];exact wK.mpr ⟨j,ej,hw'⟩
     rcases hs with hs|hs
     ·exact .inl ⟨_,zs,i,w',rfl,rfl,hs,hat,k φ2 H2 w' x2 R2 rw'⟩
     ·exact .inr ⟨_,zs,i,w',rfl,rfl,hs,hat,k φ2 H2 w' x2 R2 rw'⟩
    ·cases e
   ·cases e
  |_=>cases e
 |_=>cases e
theorem qCf(hu:X.A.units+8<cLine)(hb':jw eb=true)(ha:SE X G F ea a)(hb:SE X G F eb b):SE X G F (.Subscript ea eb pos) (.dix a b):=by
 refine qc (_L.pe_ix (qEP hu) ha hb (Zo hb')) λσc H Q q=>?_;obtain⟨φ,h,σ,v,h',R,rs,e,k⟩:=q;unfold ev at e;obtain⟨⟨x,h1⟩,e1,e3⟩:=tK e;clear e;obtain⟨⟨y,h2⟩,e2,e4⟩:=tK e3;clear e3;obtain⟨p,ep,e⟩:=zI e4;clear e4;subst ep;refine jc R rs e1 e2 λφ2 H2 xc yc x2 R2 r1 r2=>?_;cases y with
 |int i=>
  dsimp only at e;split at e
  ·rename_i kvs ed;split at e
   ·rename_i w ew;cases e;obtain⟨a',ks2,ea',_,hH,rk⟩:=R2.dct ed;obtain⟨w',ew',rw'⟩:=rk.get ew;obtain⟨q,rfl,hq⟩:=qI r1;rw[ea']at hq;cases hq;cases qB r2;refine⟨_,_,rfl,?_,k φ2 H2 _ x2 R2 rw'⟩;have:=_L.DGet.k (k:=(Sum.inl i:_L.Key)) hH;rw[qBH,ew']at this;exact this
   ·cases e
  ·cases e
 |_=>cases e
theorem Zn{φ:List Addr}{xs ys:List V}(r:rvs φ xs ys)(lo hi:Option Int):rvs φ (_L.cutV xs lo hi) (_L.cutV ys lo hi):=by
 unfold _L.cutV;rw[Paired.length r];exact zW _ (Qy _ r)
variable (X G F) in
def SO(o:Option Expr)(as:Es):Prop:=_L.PO X o λσc H Q=>∃φ h σ is h',Rl X.K G φ h H/\rst φ σ σc/\(∃vs,evs F as σ h=.ok (vs,h')/\zO vs=some is)/\∀φ' H',Ext φ φ'->Rl X.K G φ' h' H'->Q is.head? H'
theorem qBf:SO X G F none .nil:=by
 intro pins s σc H Q I q;obtain⟨φ,h,σ,is,h',R,rs,⟨vs,e,ei⟩,k⟩:=q;unfold evs at e;cases e;cases ei;exact _L.po_none pins s σc H Q I (k φ H (.refl _) R)
theorem qBl(ha:SE X G F ea a):SO X G F (some ea) (.cons a .nil):=by
 intro pins s σc H Q I q;obtain⟨φ,h,σ,is,h',R,rs,⟨vs,e,ei⟩,k⟩:=q;unfold evs at e;obtain⟨⟨x,h1⟩,e1,e⟩:=tK e;unfold evs at e;cases e;refine _L.po_some ha pins s σc H Q I ⟨φ,h,σ,x,_,R,rs,e1,λφ1 H1 w x1 R1 r1=>?_⟩;have hm:=zT ei;cases is with
 |nil=>cases hm
 |cons i r=>
  simp only[List.map_cons,List.cons.injEq]at hm;obtain⟨rfl,_⟩:=hm;cases qB r1;exact⟨i,rfl,k φ1 H1 x1 R1⟩
theorem qCb{lo hi:Option Expr}{al ah:Es}{p2:Pos}(ha:SE X G F ea a)(hl:SO X G F lo al)(hh:SO X G F hi ah):SE X G F (.Subscript ea (.Slice lo hi none p2) pos) (.sl a al ah):=by
 refine qc (_L.pe_slice (_L.SlR.or _L.sl_list _L.sl_tup) ha hl hh) λσc H Q q=>?_;obtain⟨φ,h,σ,v,h',R,rs,e,k⟩:=q;unfold ev at e;obtain⟨⟨x,h1⟩,e1,e⟩:=tK e;obtain⟨⟨l,h2⟩,e2,e⟩:=tK e;obtain⟨⟨u,h3⟩,e3,e⟩:=tK e;cases x with
 |ref p=>
  cases eil:zO l with
  |none=>dsimp only at e;rw[eil]at e;cases e
  |some il=>
   cases eiu:zO u with
   |none=>dsimp only at e;rw[eil,eiu]at e;cases e
   |some iu=>
    dsimp only at e;rw[eil,eiu]at e;dsimp only at e;split at e
    ·rename_i xs ex;cases e;refine⟨φ,h,σ,_,h1,R,rs,e1,λφ1 H1 w x1 R1 r1=>?_⟩;refine⟨φ1,h1,σ,il,h2,R1,rst.mono x1 rs,⟨l,e2,eil⟩,λφ2 H2 x2 R2=>?_⟩;refine⟨φ2,h2,σ,iu,h3,R2,rst.mono (x1.trans x2) rs,⟨u,e3,eiu⟩,λφ3 H3 x3 R3=>?_⟩;obtain⟨p',zs,hp',hs,rs'⟩:=R3.lst ex;obtain⟨q,rfl,hq⟩:=qI (rv.mono (x2.trans x3) r1);rw[hp']at hq;cases hq;exact .inl ⟨_,zs,rfl,hs,λm hm=>k (φ3++[m]) _ _ ((x1.trans (x2.trans x3)).trans ⟨[m],rfl⟩) (R3.newL hm (Zn rs' _ _)) R3.lastRef⟩
    ·split at e
     ·rename_i xs ex;split at e
      ·cases e
      ·rename_i hw;cases e;refine⟨φ,h,σ,_,h1,R,rs,e1,λφ1 H1 w x1 R1 r1=>?_⟩;refine⟨φ1,h1,σ,il,h2,R1,rst.mono x1 rs,⟨l,e2,eil⟩,λφ2 H2 x2 R2=>?_⟩;refine⟨φ2,h2,σ,iu,h3,R2,rst.mono (x1.trans x2) rs,⟨u,e3,eiu⟩,λφ3 H3 x3 R3=>?_⟩;obtain⟨p',zs,hp',hs,rs'⟩:=R3.tup ex;obtain⟨q,rfl,hq⟩:=qI (rv.mono (x2.trans x3) r1);rw[hp']at hq;cases hq;exact .inr ⟨_,zs,rfl,hs,by rw[<-Paired.length rs'];exact hw,λm hm=>k (φ3++[m]) _ _ ((x1.trans (x2.trans x3)).trans ⟨[m],rfl⟩) (R3.newT hm (Zn rs' _ _)) R3.lastRef⟩
     ·cases e
 |_=>cases e
theorem qCY{apos cpos:Pos}(hbase:attributeBase ea "append" X.env (eval ea X.env)=eval ea X.env)(hline:(apos.endLine==cpos.line)=true)(hn:qS eb=true)(ha:SE X G F ea a)(hb:SE X G F eb b):
  SE X G F (.Call (.Attribute ea "append" apos) [eb] [] cpos) (.app a b):=by
 refine qc (_L.pe_bm PySem.F.plainAttrs_list PySem.F.slot_list_append PySem.F.type_list_append _L.mt_append ha (_L.pa_cons hb _L.pa_nil (qA hn)) hbase (by rw[qA hn];rfl) hline (qA hn) rfl) λσc H Q q=>?_;obtain⟨φ,h,σ,v,h',R,rs,e,k⟩:=q;unfold ev at e;obtain⟨⟨x,h1⟩,e1,e⟩:=tK e;dsimp only at e;split at e
 ·rename_i p;split at e
  ·rename_i ys ey;obtain⟨⟨y,h2⟩,e2,e⟩:=tK e;dsimp only at e;split at e
   ·rename_i xs ex;split at e
    ·rename_i hl;cases e;refine⟨φ,h,σ,_,h1,R,rs,e1,λφ1 H1 w x1 R1 r1=>?_⟩;obtain⟨p1,zs1,hp1,hs1,_⟩:=R1.lst ey;obtain⟨q,rfl,hq⟩:=qI r1;rw[hp1]at hq;cases hq;refine⟨.inl ⟨rfl,_,hs1⟩,φ1,h1,σ,y,h2,R1,rst.mono x1 rs,e2,λφ2 H2 yc x2 R2 r2=>?_⟩;obtain⟨q1,p2,zs2,hp2,hH2,rs2⟩:=R2.mut ex;have:=x2.get hp1;rw[hp2]at this;cases this;refine⟨_,zs2,yc,rfl,rfl,hH2,?_,k φ2 _ _ (x1.trans x2) (R2.set q1 hp2 (qN rs2 (.cons r2 .nil))) trivial⟩;rw[<-Paired.length rs2];exact wx hl qAF
    ·cases e
   ·cases e
  ·cases e
 ·cases e
theorem Rl.same{K:PySem.W.Frag}{G φ:List Addr}{h:AH}{H H':Hp}(R:Rl K G φ h H)(s:Qk H H'):Rl K G φ h H':=⟨R.len,R.glob,λi o a e1 e2=>(R.obj i o a e1 e2).keep (.refl _) s,R.inj⟩
theorem Jy{φ:List Addr}:∀{xs:List V},xs.all flat=true->rvs φ xs xs
 | [],_=>.nil
 |x::xs,h=>by
  simp only[List.all_cons,wE]at h;refine .cons ?_ (Jy h.2);cases x<;>first|rfl|exact trivial|(cases h.1)
theorem X2:qe X (.type "range") (λxs H Q=>∃j:Int,xs=[.int j]/\∀p,H p=none->Q (.ref p) (upd H p (.rng 0 j))):=by
 intro pins s σ H xs us Q I r ⟨j,e,q⟩;subst e;obtain⟨u,rfl,ru⟩:=_L.vals1 r;obtain⟨t,rfl⟩:=ru;refine call_range_1 ⟨.ref s.heap.objs.size,_,I.laid (λ_ _ q=>Heap.get?_push_of_some _ q) (wF _) ?_,rfl,q _ (I.hok.fresh (wF _))⟩;exact⟨_,_,_,Heap.get?_push_size _ rfl⟩
theorem JN{P:Nat->V}:∀{n:Nat}{acc:List Value},acc.length=n->(∀(j:Nat) v,acc[j]?=some v->RelV (P j) v)->Vals ((List.range n).map P) acc:=by
 intro n
 induction n with
 |zero=>intro acc hl _;cases acc with|nil=>exact .nil|cons _ _=>simp at hl
 |succ n ih=>
  intro acc hl ha;have hne:acc≠[]:=by intro z;subst z;simp at hl
  rw[List.range_succ,vH,<-vb hne];have hd:acc.dropLast.length=n:=by rw[List.length_dropLast,hl];rfl
  refine qN (ih hd λj v e=>ha j v ?_) (.cons (ha n _ ?_) .nil)
  ·rw[<-vb hne,wC (wB.mp e).1];exact e
  ·rw[wD (by omega),List.getLast_eq_getElem];congr 1;simp[hl]
theorem JL(hc:X.calm=true):qe X (.type "list") (λxs H Q=>∃p,∃j:Int,xs=[.ref p]/\H p=some (.rng 0 j)/\(-1000000<=j/\j<=100000)/\∀l,H l=none->Q (.ref l) (upd H l (.lst (jS 0 j.toNat)))):=by
 intro pins s σ H xs us Q I r ⟨p,j,e,hp,hj,q⟩;subst e;obtain⟨u,rfl,ru⟩:=_L.vals1 r;cases ru;obtain⟨t,u,v,hr⟩:=I.hok p _ hp;have hn:Builtin.Range.rangeSize 0 j 1=((j.toNat:Nat):Int):=by rw[rangeSize_one];split<;>omega
 refine call_list_range (I.ok.hd hc) hr (small_one (by omega) (by omega) (by omega) (by omega)) hn (by omega) λh' tk acc' c' hk hS hI=>?_;refine⟨.ref s.heap.objs.size,_,I.laid (t':=tk) hk (wF _) ?_,rfl,q _ (I.hok.fresh (wF _))⟩;obtain⟨i1,i2⟩:=hI;refine⟨?_,acc'.toList,c',JN (by simpa using i1) λk v e=>?_,by simpa using hS⟩
 ·have:=Qh;unfold lim at this;rw[jS,wO,List.length_range];omega
 ·obtain⟨t',rfl⟩:=i2 k v (by simpa using e);exact⟨t',by rw[Int.mul_one]⟩
theorem qBS{p p2 pos2:Pos}(hc:X.calm=true)(hg:_L.Gl X "list")(hm:X.mg "list"=none)(hg2:_L.Gl X "range")(hm2:X.mg "range"=none)(hn:qS ea=true)(ha:SE X G F ea a):
  SE X G F (.Call (.Name "list" p) [.Call (.Name "range" p2) [ea] [] pos2] [] pos) (.lrng a):=by
 refine qc (_L.pe_callTy (JL hc) hg hm PyProof.Rows.boot_list (_L.pa_cons (_L.pe_callTy X2 hg2 hm2 PyProof.Rows.boot_range (_L.pa_cons ha _L.pa_nil (qA hn)) (by decide) (by decide) (qA hn) rfl) _L.pa_nil rfl) (by decide) (by decide) rfl rfl) λσc H Q q=>?_;obtain⟨φ,h,σ,v,h',R,rs,e,k⟩:=q;unfold ev at e;obtain⟨⟨x,h1⟩,e1,e⟩:=tK e;refine⟨φ,h,σ,x,h1,R,rs,e1,λφ1 H1 w x1 R1 r1=>?_⟩;cases x with
 |int j=>
  dsimp only at e;split at e
  ·rename_i hj;cases e;cases qB r1;refine⟨j,rfl,λp hp=>⟨p,j,rfl,qD,hj,λl hl=>?_⟩⟩;have hlp:l≠p:=by rintro rfl;rw[qD]at hl;cases hl
   have R2:Rl X.K G φ1 h1 (upd H1 p (.rng 0 j)):=R1.same (jl hp);exact k (φ1++[l]) _ _ (x1.trans ⟨[l],rfl⟩) (R2.newL hl (Jy (by simp[jS,flat]))) R2.lastRef
  ·cases e
 |_=>cases e
theorem y6{m:Mt}{r:V->List V->Hp->VK->Prop}{σc:St}{H:Hp}{Q:VK}
  (hr:∀φ h H p ys ws v h' Q,Rl X.K G φ h H->rvs φ ys ws->S3 m p ys h=.ok (v,h')->(∀φ' H' w,Ext φ φ'->Rl X.K G φ' h' H'->rv φ' v w->Q w H')->∀a,φ[p]?=some a->r (.ref a) ws H Q)
  (q:tE X.K G F (.meth m a .nil) σc H Q):_L.tBM0 X.K "list" r (tE X.K G F a) σc H Q:=by
 obtain⟨φ,h,σ,v,h',R,rs,e,k⟩:=q;unfold ev at e;obtain⟨⟨x,h1⟩,e1,e⟩:=tK e;dsimp only at e;split at e
 ·rename_i p;split at e
  ·rename_i ys ey;obtain⟨⟨zs,h2⟩,e2,e⟩:=tK e;unfold evs at e2;cases e2;refine⟨φ,h,σ,_,h1,R,rs,e1,λφ1 H1 w x1 R1 r1=>?_⟩;obtain⟨p1,zs1,hp1,hs1,_⟩:=R1.lst ey;obtain⟨q,rfl,hq⟩:=qI r1;rw[hp1]at hq;cases hq;exact⟨.inl ⟨rfl,_,hs1⟩,hr φ1 h1 H1 p [] [] v h' Q R1 .nil e (λφ3 H3 w x3 R3 r3=>k φ3 H3 w (x1.trans x3) R3 r3) _ hp1⟩
  ·cases e
 ·cases e
theorem q8:∀φ h H p ys ws v h' Q,Rl X.K G φ h H->rvs φ ys ws->S3 .clr p ys h=.ok (v,h')->(∀φ' H' w,Ext φ φ'->Rl X.K G φ' h' H'->rv φ' v w->Q w H')->∀a,φ[p]?=some a->_L.rClear (.ref a) ws H Q:=by
 intro φ h H p ys ws v h' Q R rw' e k a ha;cases ys with
 |cons y ys=>cases e
 |nil=>
  cases rw';unfold S3 at e;dsimp only at e;split at e
  ·rename_i xs ex;cases e;obtain⟨q1,p2,zs2,hp2,hH2,rs2⟩:=R.mut ex;rw[ha]at hp2;cases hp2;exact⟨a,zs2,rfl,rfl,hH2,k φ _ _ (.refl _) (R.set q1 ha .nil) trivial⟩
  ·cases e
section
open _L
def qAl(K:PySem.W.Frag):V->List V->Hp->VK->Prop:=λx vs H Q=>∃l xs y,∃j:Nat,∃hj:j<xs.length,x=.ref l/\vs=[y]/\SqL K H l xs/\flatV y=true/\xs.all flatV=true/\eqV (xs[j]) y=true/\(∀m (hm:m<j),eqV (xs[m]'(wx hm hj)) y=false)/\Q (.int (j:Int)) H
theorem r9{X:_L.Cx}:MtM X "list.index" (qAl X.K):=by
 intro pins s σ H x vs v us Q I rx rv h;obtain⟨l,xs,y,j,hj,rfl,rfl,hq,fy,fs,hit,hno,q⟩:=h;cases rx;obtain⟨u,rfl,ru⟩:=rv.one;obtain⟨its,r,pl,hz⟩:=I.list hq;have hl:=r.length;obtain⟨o,n,e,c1,c2,c3⟩:=id pl;have e':s.heap.get? l=some { cls:=.type "list",dict:=o.dict,data:=.seq its.toArray n,slots:=o.slots }:=by
  rw[e];cases o;cases c1;cases c3;rfl
 have rel:∀m (hm:m<xs.length),eqU y (its[m]'(by omega))=eqV xs[m] y:=λm hm=>by
  obtain⟨w,hw,rw'⟩:=r.get (wD hm);rw[wD (by omega)]at hw;cases hw;exact K8 rw' (vA.mp fs _ (vV hm))
 refine call_meets F.slot_list_index ⟨_,e',rfl⟩ F.entry_list_index (F.args_list_index_2 _ _) (SeqAt.list_indexAt l its.toArray n o.dict o.slots u (eqU y) j (by rw[wM];omega) (by
  rw[sizeLine_eq]at hz;omega) ?_ ?_) ⟨e',λw hw=>zX ru fy r fs w (by simpa using hw),⟨.int (j:Int),H,I.tok _,⟨_,rfl⟩,q⟩⟩
 ·rw[vc,rel j hj];exact hit
 ·intro m hm hmj;rw[vc,rel m (by omega)];exact hno m hmj
end
section
open _L
def Y7(K:PySem.W.Frag):V->List V->Hp->VK->Prop:=λx vs H Q=>∃l xs y,∃j:Nat,∃hj:j<xs.length,x=.ref l/\vs=[y]/\SqT K H l xs/\flatV y=true/\xs.all flatV=true/\eqV (xs[j]) y=true/\(∀m (hm:m<j),eqV (xs[m]'(wx hm hj)) y=false)/\Q (.int (j:Int)) H
theorem d9{X:_L.Cx}:MtM X "tuple.index" (Y7 X.K):=by
 intro pins s σ H x vs v us Q I rx rv h;obtain⟨l,xs,y,j,hj,rfl,rfl,hq,fy,fs,hit,hno,q⟩:=h;cases rx;obtain⟨u,rfl,ru⟩:=rv.one;obtain⟨its,r,pl,hz⟩:=I.tuple hq;have hl:=r.length;obtain⟨o,e,c1,n,c3⟩:=id pl;have e':s.heap.get? l=some { cls:=.type "tuple",dict:=o.dict,data:=.seq its.toArray n,slots:=o.slots }:=by
  rw[e];cases o;cases c1;cases c3;rfl
 have rel:∀m (hm:m<xs.length),eqU y (its[m]'(by omega))=eqV xs[m] y:=λm hm=>by
  obtain⟨w,hw,rw'⟩:=r.get (wD hm);rw[wD (by omega)]at hw;cases hw;exact K8 rw' (vA.mp fs _ (vV hm))
 refine call_meets F.slot_tuple_index ⟨_,e',rfl⟩ F.entry_tuple_index (F.args_tuple_index_2 _ _) (_P.tuple_indexAt l its.toArray n o.dict o.slots u (eqU y) j (by rw[wM];omega) ?_ ?_) ⟨e',λw hw=>zX ru fy r fs w (by simpa using hw),⟨.int (j:Int),H,I.tok _,⟨_,rfl⟩,q⟩⟩
 ·rw[vc,rel j hj];exact hit
 ·intro m hm hmj;rw[vc,rel m (by omega)];exact hno m hmj
end
theorem j8(hg:a.isGlob=false){σc:St}{H:Hp}{Q:VK}(q:tE X.K G F (.index a b) σc H Q):_L.tBM X.K "list" (qAl X.K) (tE X.K G F a) (tL X.K G F (.cons b .nil)) σc H Q:=by
 obtain⟨φ,h,σ,v,h',R,rs,e,k⟩:=q;unfold ev at e;rw[hg]at e;obtain⟨⟨x,h1⟩,e1,e⟩:=tK e;replace e:=zI e;obtain⟨p,rfl,e⟩:=e;split at e
 ·rename_i ys ey;replace ey:qL h1 p=some ys:=ey;obtain⟨⟨y,h2⟩,e2,e⟩:=tK e;refine⟨φ,h,σ,_,h1,R,rs,e1,λφ1 H1 w x1 R1 r1=>?_⟩;obtain⟨p1,zs1,hp1,hs1,_⟩:=R1.lst ey;obtain⟨q,rfl,hq⟩:=qI r1;rw[hp1]at hq;cases hq;refine⟨.inl ⟨rfl,_,hs1⟩,φ1,h1,σ,[y],h2,R1,rst.mono x1 rs,by unfold evs;rw[e2];unfold evs;rfl,λφ2 H2 yc x2 R2 r2=>?_⟩;cases r2 with
  |cons r3 t=>
   cases t;dsimp only at e;unfold L8 at e;split at e
   ·rename_i xs ex;replace ex:qL h2 p=some xs:=ex;split at e
    ·rename_i hf;simp only[wE]at hf;split at e
     ·rename_i j ej;cases e;obtain⟨p2,zs2,hp2,hs2,rs2⟩:=R2.lst ex;have hpp:=x2.get hp1;rw[hp2]at hpp;cases hpp;cases JI hf.1 r3;cases zG hf.2 rs2;obtain⟨hj,a1,a2⟩:=vQ.mp ej;exact⟨_,xs,y,j,hj,rfl,rfl,hs2,by rw[Qc];exact hf.1,by rw[ZM];exact hf.2,a1,λm hm=>by simpa using a2 m hm,k φ2 H2 _ (x1.trans x2) R2 rfl⟩
     ·cases e
    ·cases e
   ·cases e
 ·cases e
theorem d3{g:Nat}{ga:Addr}{og:Obj}(h1g:G[g]?=some ga)(h2g:X.K.lookup ga=some og)(h3g:og.cls=.type "tuple")(h4g:og.dict=none){σc:St}{H:Hp}{Q:VK}(q:tE X.K G F (.index (.glob g) b) σc H Q):_L.tBM X.K "tuple" (Y7 X.K) (tE X.K G F (.glob g)) (tL X.K G F (.cons b .nil)) σc H Q:=by
 obtain⟨φ,h,σ,v,h',R,rs,e,k⟩:=q;unfold ev at e;obtain⟨⟨x,h1⟩,e1,e⟩:=tK e;replace e:=zI e;obtain⟨p,rfl,e⟩:=e;split at e
 ·rename_i ys ey;replace ey:qT h1 p=some ys:=ey;have hpg:p=g:=by unfold ev at e1;cases e1;rfl
  subst hpg;obtain⟨⟨y,h2⟩,e2,e⟩:=tK e;refine⟨φ,h,σ,_,h1,R,rs,e1,λφ1 H1 w x1 R1 r1=>?_⟩;obtain⟨p1,zs1,hp1,hs1,_⟩:=R1.tup ey;obtain⟨q,rfl,hq⟩:=qI r1;rw[hp1]at hq;cases hq;have hgg:=R1.glob.get h1g;rw[hp1]at hgg;cases hgg;refine⟨.inr (.inl ⟨rfl,og,h2g,h3g,h4g⟩),φ1,h1,σ,[y],h2,R1,rst.mono x1 rs,by unfold evs;rw[e2];unfold evs;rfl,λφ2 H2 yc x2 R2 r2=>?_⟩;cases r2 with
  |cons r3 t=>
   cases t;dsimp only at e;unfold L8 at e;split at e
   ·rename_i xs ex;replace ex:qT h2 p=some xs:=ex;split at e
    ·rename_i hf;simp only[wE]at hf;split at e
     ·rename_i j ej;cases e;obtain⟨p2,zs2,hp2,hs2,rs2⟩:=R2.tup ex;have hpp:=x2.get hp1;rw[hp2]at hpp;cases hpp;cases JI hf.1 r3;cases zG hf.2 rs2;obtain⟨hj,a1,a2⟩:=vQ.mp ej;exact⟨_,xs,y,j,hj,rfl,rfl,hs2,by rw[Qc];exact hf.1,by rw[ZM];exact hf.2,a1,λm hm=>by simpa using a2 m hm,k φ2 H2 _ (x1.trans x2) R2 rfl⟩
     ·cases e
    ·cases e
   ·cases e
 ·cases e
theorem j6{apos cpos:Pos}(hglob:∀g,a=.glob g->∃ga o,G[g]?=some ga/\X.K.lookup ga=some o/\o.cls=.type "tuple"/\o.dict=none)(hbase:attributeBase ea "index" X.env (eval ea X.env)=eval ea X.env)(hline:(apos.endLine==cpos.line)=true)(hn:qS eb=true)(ha:SE X G F ea a)(hb:SE X G F eb b):
  SE X G F (.Call (.Attribute ea "index" apos) [eb] [] cpos) (.index a b):=by
 cases hg:a.isGlob with
 |false=>exact qc (_L.pe_bm PySem.F.plainAttrs_list PySem.F.slot_list_index PySem.F.type_list_index r9 ha (E6 hn hb S2) hbase (by rw[qA hn];rfl) hline (qA hn) rfl) λ_ _ _=>j8 hg
 |true=>
  unfold E.isGlob at hg;split at hg
  ·obtain⟨ga,o,g1,g2,g3,g4⟩:=hglob _ rfl;exact qc (_L.pe_bm PySem.F.plainAttrs_tuple PySem.F.slot_tuple_index PySem.F.type_tuple_index d9 ha (E6 hn hb S2) hbase (by rw[qA hn];rfl) hline (qA hn) rfl) λ_ _ _=>d3 g1 g2 g3 g4
  ·cases hg
theorem qBR{apos cpos:Pos}(hbase:attributeBase ea "clear" X.env (eval ea X.env)=eval ea X.env)(hline:(apos.endLine==cpos.line)=true)(ha:SE X G F ea a):SE X G F (.Call (.Attribute ea "clear" apos) [] [] cpos) (.meth .clr a .nil):=
 qc (_L.pe_bm0 PySem.F.plainAttrs_list PySem.F.slot_list_clear PySem.F.type_list_clear _L.mt_clear ha hbase hline) λ_ _ _=>y6 q8
end
theorem R8{φ:List Addr}{v w w':V}(a:rv φ v w)(b:rv φ v w'):w=w':=by
 cases v with
 |ref i=>
  obtain⟨x,rfl,e1⟩:=qI a;obtain⟨y,rfl,e2⟩:=qI b;rw[e1]at e2;cases e2;rfl
 |int i=>rw[qB a,qB b]
 |bl i=>rw[qx a,qx b]
 |str i=>rw[zF a,zF b]
 |non=>rw[ql a,ql b]
 |_=>cases w<;>cases a
theorem Qb{φ:List Addr}:∀{vs ws ws':List V},rvs φ vs ws->rvs φ vs ws'->ws=ws'
 |_,_,_,.nil,.nil=>rfl
 |_,_,_,.cons a r,.cons b s=>by rw[R8 a b,Qb r s]
theorem RK.uniq{φ:List Addr}:∀{kvs ks ks':List (Int×V)},RK φ kvs ks->RK φ kvs ks'->ks=ks'
 |_,_,_,.nil,.nil=>rfl
 |_,_,_,.cons a r,.cons b s=>by rw[RK.uniq r s];congr 1;exact Prod.ext (a.1.trans b.1.symm) (R8 a.2 b.2)
theorem Rl.pre{K:PySem.W.Frag}{G φ φ':List Addr}{h h2:AH}{H0 H1:Hp}(R0:Rl K G φ h H0)(R1:Rl K G φ' h2 H1)(x:Ext φ φ')(ht:h2.take h.length=h):Rl K G φ h H1:=by
 have up:∀{i:Nat}{o:O},h[i]?=some o->h2[i]?=some o:=λ{i o} e=>by
  have hi:=(wB.mp e).1;rw[<-ht,wu hi]at e;exact e
 refine⟨R0.len,R0.glob,λi o a e ea=>?_,λi j u y a m1 m2 e1 e2 e3 e4=>R1.inj i j u y a m1 m2 (up e1) (up e2) (x.get e3) (x.get e4)⟩;have r1:=R1.obj i o a (up e) (x.get ea);have r0:=R0.obj i o a e ea
 match o,r0,r1 with
 | .lst false xs,⟨ys,_,p⟩,⟨ys',e',p'⟩=>rw[Qb p' (rvs.mono x p)]at e';exact⟨ys,e',p⟩
 | .lst true xs,⟨ys,_,p⟩,⟨ys',e',p'⟩=>rw[Qb p' (rvs.mono x p)]at e';exact⟨ys,e',p⟩
 | .tup xs,⟨ys,_,p⟩,⟨ys',e',p'⟩=>rw[Qb p' (rvs.mono x p)]at e';exact⟨ys,e',p⟩
 | .ob (.dct _),⟨ks,_,p⟩,⟨ks',e',p'⟩=>rw[RK.uniq p' (RK.mono x p)]at e';exact⟨ks,e',p⟩
 | .ob (.exn _),_,e'=>exact e'
open _L (It A6 ZS)
abbrev Zf(h:Heap)(z ti to:Addr)(f0 f1:Value):Prop:=
 h.get? z=some { cls:=.type "zip",dict:=none,data:=.fields #[f0,f1,.bool false,.ref ti,.ref to],slots:=#[] }
section
variable{P:Program}{w:World}{K:Type}[DecidableEq K]{knd:KeyKind P w K}{A:Around}{E:Value->Shared->Prop}{z ti to i1 i2 a b d:Addr}{xs ys:Array Value}
def Left(knd:KeyKind P w K)(xs ys:Array Value)(k:Nat)(L:List (K×Value)):Prop:=
 (∀j p,L[j]?=some p->∃x,xs[k+j]?=some x/\knd.is p.1 x=true/\ys[k+j]?=some p.2)/\(xs[k+L.length]?=none\/ys[k+L.length]?=none)
theorem Left.next{k:Nat}{p:K×Value}{L:List (K×Value)}(h:Left knd xs ys k (p::L)):(∃x,xs[k]?=some x/\knd.is p.1 x=true/\ys[k]?=some p.2)/\Left knd xs ys (k+1) L:=by
 refine⟨by simpa using h.1 0 p rfl,λj q e=>?_,?_⟩
 ·have:=h.1 (j+1) q (by simpa using e);rw[show k+(j+1)=k+1+j by omega]at this;exact this
 ·have:=h.2;rw[List.length_cons,show k+(L.length+1)=k+1+L.length by omega]at this;exact this
end
theorem K0(is:List Int):y7 is=(firstMet (λi=>is.getD i 0) is.length).length:=by
 unfold y7 firstMet;congr 2;apply vq
 ·simp
 ·intro i h1 h2;simp[wJ,h1]
def qEU(P:Program)(w:World)(a:Addr)(n:Nat):Heap->Prop:=λh=>∃o,∃S:Int->Bool,h.get? a=some o/\o.SetObjOf (intKind P w) S n
section
variable{X:Cx}
theorem Y3(hc:X.calm=true):qe X (.type "set") (λxs H Q=>∃p,∃is:List Int,xs=[.ref p]/\SqL X.K H p (is.map V.int)/\is.length<1000/\∀l,H l=none->Q (.ref l) (upd H l (.ext (qEU X.prog X.w l (y7 is))))):=by
 intro pins s σ H xs us Q I r ⟨p,is,e,hp,hj,q⟩;subst e;obtain⟨u,rfl,ru⟩:=_L.vals1 r;cases ru;obtain⟨its,rv',pl,_⟩:=I.list hp;have hi:IntsAre its is:=_L.intsAre_of rv';have hl:its.length=is.length:=IntsAre.length hi;refine call_set_list (items:=its.toArray) (ns:=is) (I.ok.hd hc) pl.isList (by simpa using hi) (by simp[scanBound];omega) λh' tk hS hk=>?_;obtain⟨o,ho,hso⟩:=hS.objOf;refine⟨.ref s.heap.objs.size,_,I.laid (t':=tk) (λb o' e=>hk b o' (Heap.lt_size e) e) (wF _) ?_,rfl,q _ (I.hok.fresh (wF _))⟩;have e:y7 is=(firstMet (λi=>is.getD i 0) its.toArray.size).length:=by rw[K0,wM,hl]
 rw[e];exact⟨⟨o,_,ho,hso⟩,⟨o,ho⟩,λh1 h2 ⟨o,S,q1,q2⟩ k=>⟨o,S,k _ q1,q2⟩⟩
theorem N2:qe X (.builtin "len") (λxs H Q=>∃p n,xs=[.ref p]/\H p=some (.ext (qEU X.prog X.w p n))/\n<1000/\Q (.int n) H):=by
 intro pins s σ H xs us Q I r ⟨p,n,e,hp,hn,q⟩;subst e;obtain⟨u,rfl,ru⟩:=_L.vals1 r;cases ru;obtain⟨⟨o,S,ho,hex,es,ep,t,hd,_,_,hz,hf⟩,_⟩:=I.hok p _ hp;subst hz;exact call_len_set ho hex hd hf (by omega) ⟨.int _,H,(I.tok _).tok _,⟨_,rfl⟩,q⟩
theorem qBz(is:List Int):y7 is<=is.length:=by rw[K0];exact firstMet_length_le _ _
end
section
variable{X:Cx}{G:List Addr}{F:Nat->List V->AH->RV}{a:E}{ea:Expr}{pos:Pos}
theorem qA5{p p2 pos2:Pos}(hc:X.calm=true)(hg:_L.Gl X "len")(hm:X.mg "len"=none)(hg2:_L.Gl X "set")(hm2:X.mg "set"=none)(hn:qS ea=true)(ha:SE X G F ea a):
  SE X G F (.Call (.Name "len" p) [.Call (.Name "set" p2) [ea] [] pos2] [] pos) (.nset a):=by
 refine qc (_L.pe_callB N2 hg hm PySem.boot_len (_L.pa_cons (_L.pe_callTy (Y3 hc) hg2 hm2 PyProof.Rows.boot_set (_L.pa_cons ha _L.pa_nil (qA hn)) (by decide) (by decide) (qA hn) rfl) _L.pa_nil rfl) (by decide) (by decide) rfl rfl) λσc H Q q=>?_;obtain⟨φ,h,σ,v,h',R,rs,e,k⟩:=q;unfold ev at e;obtain⟨⟨x,h1⟩,e1,e⟩:=tK e;refine⟨φ,h,σ,x,h1,R,rs,e1,λφ1 H1 w x1 R1 r1=>?_⟩;dsimp only at e;split at e
 ·rename_i q0;split at e
  ·rename_i ys ey;split at e
   ·rename_i is ei;split at e
    ·rename_i hl;cases e;obtain⟨p',rfl,hp⟩:=qI r1;obtain⟨p'',zs,hp',hs,rs'⟩:=R1.lst ey;rw[hp]at hp';cases hp';have hm':=zT ei;subst hm';have hz:=zG (jD is) rs';subst hz;have:=qBz is;refine⟨p',is,rfl,hs,hl,λl hl'=>⟨l,y7 is,rfl,qD,by omega,?_⟩⟩;have R2:=R1.same (jl (o:=.ext (qEU X.prog X.w l (y7 is))) hl');exact k φ1 _ _ x1 R2 rfl
    ·cases e
   ·cases e
  ·cases e
 ·cases e
end
def QS(xs:Array Nat):Prop:=xs.toList.Pairwise (·<·)
def qD7(xs:Array Nat)(j r:Nat):Prop:=r<=xs.size/\(∀i,i<r->xs.getD i 0<j)/\∀i,r<=i->i<xs.size->j<=xs.getD i 0
theorem jm{xs:Array Nat}(h:QS xs){i j:Nat}(hij:i<j)(hj:j<xs.size):xs.getD i 0<xs.getD j 0:=by
 have hi:i<xs.size:=by omega
 have:=List.pairwise_iff_getElem.mp h i j (by simpa using hi) (by simpa using hj) hij;simpa [Array.getD,hi,hj] using this
theorem qCM{xs:Array Nat}{j:Nat}(h:QS xs):∀(fuel lo hi:Nat),lo<=hi->hi<=xs.size->hi-lo<=fuel->(∀i,i<lo->xs.getD i 0<j)->(∀i,hi<=i->i<xs.size->j<=xs.getD i 0)->qD7 xs j (SetTable.below.go xs j fuel lo hi):=by
 intro fuel
 induction fuel with
 |zero=>
  intro lo hi h1 h2 h3 h4 h5;have:lo=hi:=by omega
  subst this;exact⟨h2,h4,h5⟩
 |succ fuel ih=>
  intro lo hi h1 h2 h3 h4 h5;unfold SetTable.below.go;split
  ·rename_i hlt;dsimp only;have gd:xs.getD ((lo+hi) / 2) j=xs.getD ((lo+hi) / 2) 0:=by
    have:(lo+hi) / 2<xs.size:=by omega
    simp[Array.getD,this]
   rw[gd];split
   ·rename_i q;refine ih _ _ (by omega) h2 (by omega) (λi hi'=>?_) h5;rcases Nat.lt_or_ge i ((lo+hi) / 2) with z|z
    ·exact wx (jm h z (by omega)) q
    ·have:i=(lo+hi) / 2:=by omega
     subst this;exact q
   ·rename_i q;refine ih _ _ (by omega) (by omega) (by omega) h4 (λi hi' hs=>?_);rcases Nat.lt_or_ge ((lo+hi) / 2) i with z|z
    ·exact wH (Nat.le_of_not_lt q) (wv (jm h z hs))
    ·have:i=(lo+hi) / 2:=by omega
     subst this;exact Nat.le_of_not_lt q
  ·have:lo=hi:=by omega
   subst this;exact⟨h2,h4,h5⟩
theorem ZA{xs:Array Nat}{j:Nat}(h:QS xs):qD7 xs j (SetTable.below xs j):=
 qCM h _ _ _ (vM _) (wF _) (by omega) (λi hi=>absurd hi (Nat.not_lt_zero _)) (λi h1 h2=>absurd h2 (by omega))
theorem K5{xs:Array Nat}{j r r':Nat}(a:qD7 xs j r)(b:qD7 xs j r'):r=r':=by
 rcases Nat.lt_trichotomy r r' with z|z|z
 ·have h1:=b.2.1 r z;have h2:=a.2.2 r (wF _) (by have:=b.1;omega);omega
 ·exact z
 ·have h1:=a.2.1 r' z;have h2:=b.2.2 r' (wF _) (by have:=a.1;omega);omega
theorem N9{xs:Array Nat}{i:Nat}(h:QS xs)(hi:i<xs.size):SetTable.below xs (xs.getD i 0+1)=i+1:=by
 refine K5 (ZA h) ⟨hi,λk hk=>?_,λk hk hs=>jm h (by omega) hs⟩;rcases Nat.lt_or_ge k i with z|z
 ·have:=jm h z hi;omega
 ·have:k=i:=by omega
  subst this;omega
theorem O8{xs:Array Nat}(h:QS xs):SetTable.below xs 0=0:=K5 (ZA h) ⟨vM _,λi hi=>absurd hi (Nat.not_lt_zero _),λ_ _ _=>vM _⟩
theorem m8{xs:Array Nat}{j:Nat}(h:QS xs)(hn:xs[SetTable.below xs j]?≠some j):QS (SetTable.insertAt xs (SetTable.below xs j) j):=by
 obtain⟨c1,c2,c3⟩:=ZA (j:=j) h;generalize SetTable.below xs j=p at *;unfold QS at *;rw[SetTable.toList_insertAt];have hg:∀i (hi:i<xs.size),xs.getD i 0=xs.toList[i]'(by simpa using hi):=λi hi=>by simp[Array.getD,hi]
 rw[<-List.take_append_drop p xs.toList,List.pairwise_append]at h;obtain⟨a1,a2,a3⟩:=h;have lo:∀x∈xs.toList.take p,x<j:=λx hx=>by
  obtain⟨i,hi,rfl⟩:=vS.mp hx;rw[vI]at hi;have:=c2 i (by omega);rw[hg i (by simp at hi;omega)]at this;simpa using this
 have hi:∀x∈xs.toList.drop p,j<x:=λx hx=>by
  obtain⟨i,hi,rfl⟩:=vS.mp hx;rw[vJ]at hi;have hs:p+i<xs.size:=by simp at hi;omega
  have ge:∀i,p<=i->i<xs.size->j<=xs.getD i 0:=c3;have h0:xs.getD p 0≠j:=λe=>hn (by
   have hp:p<xs.size:=by omega
   rw[Array.getElem?_eq_getElem hp];rw[hg p hp]at e;simpa using e)
  have h1:j<xs.getD p 0:=Nat.lt_of_le_of_ne (ge p (wF _) (by omega)) (Ne.symm h0);have h2:j<xs.getD (p+i) 0:=by
   rcases Nat.eq_zero_or_pos i with z|z
   ·subst z;exact h1
   ·have q:=List.pairwise_iff_getElem.mp a2 0 i (by rw[vJ];simp;omega) (by rw[vJ];simp;omega) z;rw[hg (p+i) hs];rw[hg p (by omega)]at h1;simp at q h1 ⊢;omega
  rw[hg (p+i) hs]at h2;simpa using h2
 rw[List.pairwise_append];refine⟨a1,vP.mpr ⟨hi,a2⟩,λx hx y hy=>?_⟩;rcases wP.mp hy with rfl|hy
 ·exact lo x hx
 ·exact a3 x hx y hy
theorem N1(n:Nat):QS (Array.range n):=by
 unfold QS;rw[Array.toList_range];exact vX
structure zm(t:SetTable)(b:Bool):Prop where
 rise:QS t.place
 dum:t.dummies=#[]
 led:b=false->t.led=true
theorem O1{b led:Bool}(h:b=false->led=true):zm (.fresh 0 0 led) b:=⟨.nil,rfl,h⟩
theorem N6{t:SetTable}{b p:Bool}(g:zm t b):zm { t with plain:=p } b:=⟨g.rise,g.dum,g.led⟩
theorem zH{t:SetTable}{b:Bool}(g:zm t b)(n:Nat):zm (t.standIn n) b:=⟨N1 n,rfl,g.led⟩
theorem qBK{t:SetTable}{b:Bool}(g:zm t b)(n:Nat):zm (t.orStandIn n) b:=by
 unfold SetTable.orStandIn;split
 ·exact g
 ·exact zH g n
theorem a8{j:Nat}:SetTable.has #[] j=false:=by simp[SetTable.has]
theorem D8{t:SetTable}{f:Nat->Int}{h:Int}(hd:t.dummies=#[]):∀(fuel:Nat) (p:SetTable.Probe){j:Nat}{d:Option Nat},p.dummy=none->SetTable.probe.go t f h fuel p=some (.empty j d)->d=none/\t.slot j=.empty:=by
 intro fuel
 induction fuel with
 |zero=>intro p j d _ e;cases e
 |succ fuel ih=>
  intro p j d hp e;have ad:(t.advance p).dummy=none:=by
   unfold SetTable.advance;split
   ·exact hp
   ·exact hp
  unfold SetTable.probe.go at e;split at e
  ·rename_i q;cases e;exact⟨hp,q⟩
  ·rename_i q;unfold SetTable.slot at q;dsimp only at q;rw[hd,a8]at q;split at q
   ·cases q
   ·simp at q
  ·split at e
   ·cases e
   ·exact ih _ ad e
theorem F2{t:SetTable}{b:Bool}(g:zm t b)(es:Array (Int×Value))(h:Int)(x:Value):zm (layNew t es h x).2.1 b:=by
 unfold layNew;split
 ·rename_i slot wd e;dsimp only;refine qBK ?_ _;unfold SetTable.freeSlot at e;split at e
  ·rename_i j d ep;obtain⟨rfl,hs⟩:=D8 g.dum _ _ (by rfl) ep;cases e;unfold SetTable.put;dsimp only;refine⟨m8 g.rise λq=>?_,?_,g.led⟩
   ·unfold SetTable.slot at hs;dsimp only at hs;rw[show (none.getD j:Nat)=j from rfl]at q;rw[q]at hs;simp at hs
   ·dsimp only;rw[g.dum,a8];rfl
  ·cases e
 ·exact zH g _
theorem U4{mask finger moves:Nat}{led plain b:Bool}{hs:Array Int}{t:SetTable}{o:Array Nat}(hl:b=false->led=true)(e:SetTable.laid mask finger moves led plain hs=some (t,o)):zm t b:=by
 unfold SetTable.laid at e;obtain⟨ow,_,e⟩:=wK.mp e;cases e;refine⟨?_,rfl,hl⟩;unfold QS;dsimp only;rw[List.map_filterMap];have:List.Sublist (List.filterMap (λx=>Option.map (λx=>x.1) (Option.map (λk=>(x,k)) (ow.getD x none))) (List.range (mask+1))) (List.range (mask+1)):=by
  generalize List.range (mask+1)=l
  induction l with
  |nil=>exact .slnil
  |cons a l ih=>
   rw[vf];cases ow.getD a none with
   |none=>exact ih.cons a
   |some k=>exact ih.cons₂ a
 exact vX.sublist this
theorem P8{t:SetTable}{b:Bool}(g:zm t b)(es:Array (Int×Value))(w:Nat):zm (relayAll t es w).2.1 b:=by
 unfold relayAll;split
 ·rename_i t' o e;dsimp only;split
  ·exact U4 g.led e
  ·exact zH g _
 ·exact zH g _
def SetG(P:Program)(w:World)(b:Bool)(h:Heap)(a:Addr)(S:Int->Bool)(n:Nat):Prop:=
 ∃o es ep t,h.get? a=some o/\o.ExactSet/\o.data=.set es ep t/\ElemsOf (intKind P w) es.toList/\(∀k,S k=true↔∃e∈es.toList,(intKind P w).is k e.2=true)/\es.size<scanBound/\t.fits es.size=true/\es.size=n/\zm t b
section
variable{P:Program}{w:World}{A:Around}{E:Value->Shared->Prop}{s:Shared}{b:Bool}{a:Addr}{S:Int->Bool}{n:Nat}
theorem SetG.eq{h:Heap}{S':Int->Bool}{n':Nat}(g:SetG P w b h a S n)(e:∀k,S k=S' k)(en:n=n'):SetG P w b h a S' n':=by
 have:S=S':=funext e;subst this;subst en;exact g
theorem qFf{h:Heap}{o:Obj}{es es':Array (Int×Value)}{ep:Nat}{t t':SetTable}(ho:h.get? a=some o)(hx:o.ExactSet)(hd:o.data=.set es ep t)(h1:ElemsOf (intKind P w) es'.toList)(h2:∀k,S k=true↔∃e∈es'.toList,(intKind P w).is k e.2=true)(h3:es'.size<scanBound)(h4:t'.fits es'.size=true)(g:zm t' b):
  (h.update a (Obj.putSet es' t')).get? a=some { o with data:=.set es' (ep+1) t' }/\SetG P w b (h.update a (Obj.putSet es' t')) a S es'.size:=by
 have z:=(SetOf_store (knd:=intKind P w) ho hx hd h1 h2 h3 h4).1;exact⟨z,_,es',ep+1,t',z,hx,rfl,h1,h2,h3,h4,rfl,g⟩
theorem a5{gw:Bool->Sem Unit}(hgw:∀(c:Bool) (s1:Shared) (Q':Unit->Shared->Prop),Q' () s1->wpAny (model P w) A (gw c) Q' E s1)
  {o:Obj}{es es1:Array (Int×Value)}{ep:Nat}{t t2:SetTable}(ho:s.heap.get? a=some o) (hx:o.ExactSet) (hd:o.data=.set es ep t)
  (h1:ElemsOf (intKind P w) es1.toList) (h2:∀k,S k=true↔∃e∈es1.toList,(intKind P w).is k e.2=true) (h3:es1.size<scanBound) (h4:t2.fits es1.size=true) (g:zm t2 b){dm:Bool}{R:Option Bool->Shared->Prop}
  (fin:∀h',Heap.SameBut a s.heap h'->SetG P w b h' a S es1.size->R (some true) { s with heap:=h' }):
  wpAny (model P w) A (do
    storeSet a es1 t2
    if (!dm&&t2.tooFull)=true then do
      gw (relayAll t2 es1 (SetTable.grown es1.size)).2.2
      storeSet a (relayAll t2 es1 (SetTable.grown es1.size)).1 (relayAll t2 es1 (SetTable.grown es1.size)).2.1
      pure (some true)
     else pure (some true)) R E s:=by
 obtain⟨g1,G1⟩:=qFf (P:=P) (w:=w) (b:=b) (S:=S) ho hx hd h1 h2 h3 h4 g;have k1:=Heap.SameBut.update s.heap a (Obj.putSet es1 t2);refine uD (wpAny_storeSet_of ho hd ?_ (fits_of_scanBound h3));split
 ·have pm:=relayAll_perm t2 es1 (SetTable.grown es1.size);have ft:=relayAll_fits t2 es1 (SetTable.grown es1.size);have gd:=P8 g es1 (SetTable.grown es1.size);generalize relayAll t2 es1 (SetTable.grown es1.size)=r at pm ft gd ⊢;obtain⟨es2,t3,gv⟩:=r;dsimp only at pm ft gd ⊢;have sz:es2.size=es1.size:=by rw[<-wa,pm.length_eq,wa]
  have h3':es2.size<scanBound:=by rw[sz];exact h3
  refine uD (hgw _ _ _ (uD (wpAny_storeSet_of g1 rfl ?_ (fits_of_scanBound h3'))));obtain⟨_,G2⟩:=qFf (P:=P) (w:=w) (b:=b) (S:=S) g1 hx rfl (h1.perm pm) (λk=>(h2 k).trans ⟨λ⟨e,q,z⟩=>⟨e,pm.mem_iff.mpr q,z⟩,λ⟨e,q,z⟩=>⟨e,pm.mem_iff.mp q,z⟩⟩) h3' ft gd;exact uE (fin _ (k1.trans (Heap.SameBut.update _ a _)) (by rw[<-sz];exact G2))
 ·exact uE (fin _ k1 G1)
theorem n9{k:Int}{x:Value}{Q:Bool->Shared->Prop}(hkey:(intKind P w).is k x=true)(hsc:x.scannable=true)(g:SetG P w b s.heap a S n)(room:n+1<scanBound)
  (fin:∀h',Heap.SameBut a s.heap h'->SetG P w b h' a (λk'=>S k'||decide (k'=k)) (if S k then n else n+1)->Q (!S k) { s with heap:=h' }):
  wpAny (model P w) A (setAddHashed a x ((intKind P w).hash k)) Q E s:=by
 obtain⟨o,es,ep,t,ho,hx,hd,hel,hmem,hb,hf,hn,gd⟩:=g;unfold setAddHashed setAddHashedIn;refine wpAny_holding (uD (wpAny_setState_of ho hd hf ?_));dsimp only;rw[byScan_of hsc hb hel,if_pos rfl];unfold setAddByScan;refine uD (uD (wpAny_rule (uD (wpAny_setScan_of hkey ho hd hf hel ?_))));cases hr:List.findIdx? (λe=>(intKind P w).is k e.2) es.toList with
 |some j=>
  dsimp only;obtain⟨hj,pj,_⟩:=vQ.mp hr;have yes:S k=true:=(hmem k).mpr ⟨es.toList[j],vV hj,pj⟩;have f:=fin s.heap (Heap.SameBut.refl a s.heap) ⟨o,es,ep,t,ho,hx,hd,hel,λk'=>by
   rw[va,uH,<-hmem k'];exact⟨λq=>q.elim id (λe=>e ▸ yes),.inl⟩,hb,hf,by rw[yes];exact hn,gd⟩
  rw[yes]at f;exact uE (uE (by cases s;exact f))
 |none=>
  dsimp only;have no:S k=false:=by
   cases q:S k with
   |false=>rfl
   |true=>
    obtain⟨e,he,z⟩:=(hmem k).mp q;have:=List.findIdx?_eq_none_iff.mp hr e he;rw[z]at this;cases this
  have pm:=layNew_perm t es ((intKind P w).hash k) x;have ft:=layNew_fits t es ((intKind P w).hash k) x;have gl:=F2 gd es ((intKind P w).hash k) x;generalize layNew t es ((intKind P w).hash k) x=r at pm ft gl ⊢;obtain⟨es1,t1,dm,gv⟩:=r;dsimp only at pm ft gl ⊢;rw[Array.toList_push]at pm;have sz:es1.size=n+1:=by rw[<-wa,pm.length_eq,wW,wa,hn];rfl
  have h3:es1.size<scanBound:=by rw[sz];exact room
  have gw:∀(c:Bool){s1:Shared}{Q':Unit->Shared->Prop},Q' () s1->wpAny (model P w) A (match c with|true=>rule "set.scan.the-table-gave-way" | false=>pure ()) Q' E s1:=λc s1 Q' q=>by
   cases c
   ·exact uE q
   ·exact wpAny_rule q
  refine uD (gw _ ?_);have e1:=(hel.push hkey hsc).perm pm;have e2:=mem_push_iff hkey hmem pm;have ends:∀h',Heap.SameBut a s.heap h'->SetG P w b h' a (λk'=>S k'||decide (k'=k)) es1.size->Q true { s with heap:=h' }:=λh' k1 G=>by
   have:=fin h' k1;rw[no]at this;rw[sz]at G;exact this G
  split
  ·refine uD ?_;rw[hashByValue_scannable 8 hsc];refine uE (a5 (P:=P) (w:=w) (b:=b) ?_ ho hx hd e1 e2 h3 ?_ ?_ λh' k1 G=>by dsimp only;exact uE (ends h' k1 G))
   ·intro c s1 Q' q;cases c
    ·exact uE q
    ·exact wpAny_rule q
   ·split
    ·exact ft
    ·exact SetTable.fits_plain_off ft
   ·split
    ·exact gl
    ·exact N6 gl
  ·refine uD (uE ?_);rw[if_pos rfl];refine a5 (P:=P) (w:=w) (b:=b) ?_ ho hx hd e1 e2 h3 ft gl λh' k1 G=>by dsimp only;exact uE (ends h' k1 G)
   intro c s1 Q' q;cases c
   ·exact uE q
   ·exact wpAny_rule q
end
noncomputable def jV(w:World):Bool:=w.params.followText "set-order"
section
variable{P:Program}{w:World}{A:Around}{E:Value->Shared->Prop}{s:Shared}{b:Bool}
theorem SetG.at{h h':Heap}{a:Addr}{S:Int->Bool}{n:Nat}(g:SetG P w b h a S n)(e:∀o,h.get? a=some o->h'.get? a=some o):SetG P w b h' a S n:=
 let ⟨o,es,ep,t,h1,r⟩:=g;⟨o,es,ep,t,e o h1,r⟩
noncomputable def i9(val:Nat->Int)(i:Nat):Int->Bool:=λk=>(firstMet val i).any (·==k)
theorem B6{R:Result->Shared->Prop}{I:Addr}{fp wr:List Addr}{G:Array GenState->Array GenState->Prop}{n:Nat}{Pr:Nat->Value->Prop}{St:Nat->Shared->Prop}(W:WalksS P w A.in1 I fp wr G n Pr St)(a:Addr)(ha:a∉fp)
  (val:Nat->Int) (hval:∀i v,Pr i v->∃t,v=.int (val i) t) (hb:n+1<scanBound):
  ∀(k i:Nat) (s:Shared),n-i=k->i<=n->St i s->SetG P w b s.heap a (i9 val i) (firstMet val i).length ->
   (∀s',Moved (a::wr) G s s'->SetG P w b s'.heap a (i9 val n) (firstMet val n).length->R (.ok (.ret .none)) s') ->
   codeAny (model P w) A (.builtin "set.update.loop" ⟨[.ref a,.ref I],[]⟩) R s:=by
 have haw:a∉wr:=λh=>ha (W.sub _ h);have up:∀c∈wr,c∈a::wr:=λc hc=>wI _ hc;intro k
 induction k with
 |zero=>
  intro i s hk hi st g fin;have:i=n:=by omega
  subst this;refine codeAny_builtin F.entry_set_update_loop ?_;rw[Around.under_plainId F.plain_set_update_loop _];show wpAny _ A.in1 (pyNext (.ref I) >>=_) _ _ s;refine uD (W.done s _ _ st λs' hm=>?_);show wpAny _ A.in1 (ret Value.none) _ _ s';exact uE (fin s' (hm.mono up) (g.at λo e=>hm.heap a o haw e))
 |succ k ih=>
  intro i s hk hi st g fin;have lt:i<n:=by omega
  refine codeAny_builtin F.entry_set_update_loop ?_;rw[Around.under_plainId F.plain_set_update_loop _];show wpAny _ A.in1 (pyNext (.ref I) >>=_) _ _ s;refine uD (W.item i s _ _ lt st λv s' hP st' hm=>?_);obtain⟨t,rfl⟩:=hval i v hP;have g':=g.at (h':=s'.heap) λo e=>hm.heap a o haw e;show wpAny _ A.in1 (holding [Value.int (val i) t] (setAdd a (.int (val i) t)) >>=_) _ _ s';refine uD (wpAny_holding ?_);unfold setAdd;refine wpAny_holding (uD ((intKind P w).pyHash (k:=val i) (intKind_is _ _ _ _) ?_));have le:=firstMet_length_le val i;refine n9 (s:={ s' with toks:=s'.toks+1 }) (intKind_is _ _ _ _) rfl g' (by omega) λh' sb g2=>?_;have g3:SetG P w b h' a (i9 val (i+1)) (firstMet val (i+1)).length:=by
   refine g2.eq (λc=>?_) ?_
   ·show _=(firstMet val (i+1)).any (·==c);rw[firstMet_succ,step_any];rfl
   ·rw[firstMet_succ,step_length];rfl
  refine uE ⟨plainId_quiet F.plain_set_update_loop _,ih (i+1) _ (by omega) lt (W.frame _ s' _ _ st' (Nat.le_succ _) λc hc o e=>?_) g3 λs2 hm2 g4=>?_⟩
  ·rw[sb.2 c (λz:c=a=>ha (by rw[<-z];exact hc))];exact e
  ·refine fin s2 (Moved.trans W.gtrans ((hm.mono up).then_heap (Nat.le_succ _) λc o hc e=>?_) hm2) g4;rw[sb.2 c (λz:c=a=>hc (by rw[z];exact wN))];exact e
noncomputable abbrev zo(w:World):Obj:={ cls:=.type "set",dict:=none,data:=.set #[] 0 (.fresh 0 0 (!jV w)) }
theorem j2(v:Value){Q:Value->Shared->Prop}(h:Q (.ref s.heap.objs.size) { s with heap:=s.heap.push (zo w) }):
  codeAny (model P w) A (.call (.builtin "set.__new__") ⟨[.type "set",v],[]⟩) (wants Q E) s:=by
 refine codeAny_of_tree ?_;show wpAny _ A.in1 (do checkBuiltinCall "set.__new__" ⟨[.type "set",v],[]⟩;again (.builtin "set.__new__" ⟨[.type "set",v],[]⟩)) _ _ s;refine uD (wpAny_of_eq (F.newCall_set_1 v) (uE ⟨plainId_quiet F.plain_set_new _,codeAny_builtin F.entry_set_new ?_⟩));rw[Around.under_plainId F.plain_set_new _];unfold Builtin.«set.__new__» Builtin.Frozenset.newClass;have self:=sub_set_self;obtain⟨hp,g,d,tk,os⟩:=s;dsimp only
 wp_walk
 refine wpAny_askSetting (uE ?_);dsimp only;simp only[newObj];refine uD (wpAny_alloc (uE ?_));exact uE h
theorem E7{l:Addr}{its:Array Value}{ns:List Int}{Q:Value->Shared->Prop}(hh:A.handled=none)(hl:s.heap.IsList l its)(hi:IntsAre its.toList ns)(hb:its.size+1<scanBound)
  (fin:∀(h':Heap) (tk:Nat),SetG P w (jV w) h' s.heap.objs.size (i9 (λi=>ns.getD i 0) its.size) (firstMet (λi=>ns.getD i 0) its.size).length ->
   (∀c o,c<s.heap.objs.size->s.heap.get? c=some o->h'.get? c=some o)->Q (.ref s.heap.objs.size) { s with heap:=h',toks:=tk }):
  wpAny (model P w) A (call (.type "set") [.ref l]) Q E s:=by
 obtain⟨c,tl,mro⟩:=F.called_set.mro;have made:=F.called_set.made;have sub:=F.called_set.sub;refine wpAny_call (codeAny_of_tree ?_);show wpAny _ _ (callAny (.type "set") _) _ _ _;refine uE ⟨Code.quiet_builtin _ (by decide +kernel),codeAny_builtin F.entry_type_call ?_⟩;rw[Around.under_plain (weight_type_call_type "set" [.ref l] []) rfl];have t1:=F.called_set.notType;have t2:=F.called_set.canCreate;have t3:=F.typeCall_set_1 (.ref l)
 repeat (any_goals (first|assumption|wp_step))
 refine codeAny_mono (j2 (.ref l) (E:=E) (Q:=λv s1=>v=.ref s.heap.objs.size/\s1={ s with heap:=s.heap.push (zo w) }) ⟨rfl,rfl⟩) λr s1 hr=>?_;cases r with
 |error e=>exact hr
 |ok fl=>
  cases fl with
  |ret v=>
   obtain⟨rfl,rfl⟩:=hr;have g0:(s.heap.push (zo w)).get? s.heap.objs.size=some (zo w):=Heap.get?_push_size _ rfl;have ty:Shared.TypeIs { s with heap:=s.heap.push (zo w) } (.ref s.heap.objs.size) "set":=⟨_,g0,rfl⟩
   have li:=F.called_set.init.lookup;have bi:=F.called_set.init.bind (.ref s.heap.objs.size)
   repeat (any_goals (first|assumption|wp_step))
   refine codeAny_mono (codeAny_call_builtin (R:=wants (λr s2=>r=.none/\∃h' tk,s2={ s with heap:=h',toks:=tk }/\
     SetG P w (jV w) h' s.heap.objs.size (i9 (λi=>ns.getD i 0) its.size) (firstMet (λi=>ns.getD i 0) its.size).length/\
     (∀c o,c<s.heap.objs.size->s.heap.get? c=some o->h'.get? c=some o)) E) F.called_set.init.plain F.entry_set_init (check_set_init_1 ty ?_)) λr2 s2 hr2=>?_
   ·obtain⟨ol,hol,hcl,nl,hdl⟩:=hl;obtain⟨ocls,odict,odata,oslots⟩:=ol;simp only at hcl hdl;subst hcl;subst hdl;have hol':(s.heap.push (zo w)).get? l=some { cls:=.type "list",dict:=odict,data:=.seq its nl,slots:=oslots }:=Heap.get?_push_of_some _ hol;have n1:=F.sub_list_set;have n2:=F.sub_list_frozenset;have n3:(Value.type "list"==Value.type "dict")=false:=by decide
    have hl1:(s.heap.push (zo w)).IsList l its:=⟨_,hol',rfl,nl,rfl⟩
    unfold Builtin.«set.__init__» noKeywords Builtin.Frozenset.updateFrom;generalize hPI:pyIter=_P
    wp_walk
    subst hPI;refine wpAny_pyIter_list hl1 (uD (wpAny_runValue ?_));have lS:l<s.heap.objs.size:=Heap.lt_size hol;have hh3:A.in1.in1.in1.handled=none:=by simp[hh]
    have neI:l≠(s.heap.push (zo w)).objs.size:=by rw[Heap.size_push];exact wU (vj lS)
    have nf:s.heap.objs.size∉[(s.heap.push (zo w)).objs.size,l]:=by
     rw[Heap.size_push];simp only[wP,wY,wt,or_false,not_or];exact⟨wU (vU _),vi lS⟩
    have hv:∀(i:Nat) (v:Value),its[i]?=some v->∃t,v=.int ((λi=>ns.getD i 0) i) t:=λi v q=>
     IntsAre.int_at hi i v (by rw[Array.getElem?_toList];exact q)
    refine B6 (P:=P) (w:=w) (b:=jV w) ((Walks.list hh3 _ l neI its).toS) s.heap.objs.size nf (λi=>ns.getD i 0) hv hb (its.size-0) 0 _ (by omega) (vM _) ⟨⟨_,Heap.get?_push_size _ rfl,rfl,rfl⟩,(hl1.push _)⟩ ?zer ?fin
    case zer=>
     exact⟨zo w,#[],0,_,Heap.get?_push_of_some _ g0,⟨rfl,rfl,rfl⟩,rfl,λe he=>by simp at he,λk=>by simp[i9,firstMet_zero],by decide,by rfl,rfl,O1 λz=>by rw[z];rfl⟩
    case fin=>
     intro s' hm g';obtain⟨h',g,d',tk',os'⟩:=s';have eg:g=s.gens:=hm.gens;have ed:d'=s.drawn:=hm.drawn;have eo:os'=s.os:=hm.os;subst eg;subst ed;subst eo;show wpAny _ _ _ _ _ _;refine uE ?_;show wpAny _ _ (ret Value.none) _ _ _;refine uE ⟨rfl,h',tk',rfl,g',λc o hc e=>?_⟩;have c1:c≠s.heap.objs.size:=wU hc;have c2:c≠(s.heap.push (zo w)).objs.size:=by rw[Heap.size_push];exact wU (vj hc)
     exact hm.heap c o (by simp only[wP,wY,wt,or_false,not_or];exact⟨c1,c2⟩) (Heap.get?_push_of_some _ (Heap.get?_push_of_some _ e))
   ·cases r2 with
    |error e=>exact hr2
    |ok fl2=>
     cases fl2 with
     |ret r=>
      obtain⟨rfl,h',tk,rfl,g',k'⟩:=hr2
      repeat (any_goals (first|assumption|wp_step))
      exact fin _ _ g' k'
     |_=>exact hr2.elim
  |_=>exact hr.elim
end
theorem slot_si_next:Slot "set_iterator" "__next__" "set_iterator.__next__":=
 .of (owner:="set_iterator") (n:="__next__") (by rw[typeLookup_type,builtinLookup_eq_fast];kernel_rfl) (by decide +kernel) (by decide +kernel) (by decide +kernel)
  (by first|exact .inl (by decide +kernel)|exact .inr (by decide +kernel)) (by rw[isSubtype_type];kernel_rfl)
theorem QO:Slot "set_iterator" "__iter__" "set_iterator.__iter__":=
 .of (owner:="set_iterator") (n:="__iter__") (by rw[typeLookup_type,builtinLookup_eq_fast];kernel_rfl) (by decide +kernel) (by decide +kernel) (by decide +kernel)
  (by first|exact .inl (by decide +kernel)|exact .inr (by decide +kernel)) (by rw[isSubtype_type];kernel_rfl)
theorem qp:entryFor table "set_iterator.__next__"=some Builtin.«set_iterator.__next__»:=entryFor_of_tree (by kernel_rfl)
theorem Zx:entryFor table "set_iterator.__iter__"=some Builtin.«dict_keyiterator.__iter__»:=
 entryFor_alias (id':="dict_keyiterator.__iter__") (by kernel_rfl) rfl (by decide +kernel) (by kernel_rfl)
theorem A8:entryFor table "set.__iter__"=some Builtin.«frozenset.__iter__»:=
 entryFor_alias (id':="frozenset.__iter__") (by kernel_rfl) rfl (by decide +kernel) (by kernel_rfl)
theorem F8:Manifest.owners.lookup (String.ofList ['r','o','t','a','r','e','t','i','_','t','e','s'].reverse)=some Manifest.sig_set_iterator:=by kernel_rfl
theorem zJ(a:Value):argsOk "set_iterator.__next__" ⟨[a],[]⟩:=by
 unfold argsOk;rw[signature?_of (id:="set_iterator.__next__") (n:=['_','_','t','x','e','n','_','_']) (o:=['r','o','t','a','r','e','t','i','_','t','e','s']) (by kernel_rfl) F8];kernel_rfl
theorem Jt(a:Value):argsOk "set_iterator.__iter__" ⟨[a],[]⟩:=by
 unfold argsOk;rw[signature?_of (id:="set_iterator.__iter__") (n:=['_','_','r','e','t','i','_','_']) (o:=['r','o','t','a','r','e','t','i','_','t','e','s']) (by kernel_rfl) F8];kernel_rfl
def IterS(h:Heap)(I a:Addr)(first:Value)(i n ep:Nat):Prop:=
 ∃o,h.get? I=some o/\o.cls=.type "set_iterator"/\o.data=.fields #[first,.int i 0,.ref a,.int n 0,.int ep 0]
section
variable{P:Program}{w:World}{A:Around}{E:Value->Shared->Prop}{s:Shared}{I a:Addr}{first:Value}{i n ep:Nat}
theorem IterS.typeIs(x:IterS s.heap I a first i n ep):s.TypeIs (.ref I) "set_iterator":=let ⟨o,ho,hc,_⟩:=x;⟨o,ho,hc⟩
theorem IterS.at{h h':Heap}(x:IterS h I a first i n ep)(e:∀o,h.get? I=some o->h'.get? I=some o):IterS h' I a first i n ep:=let ⟨o,ho,r⟩:=x;⟨o,e _ ho,r⟩
theorem U6{Q:Value->Shared->Prop}(hit:IterS s.heap I a first i n ep)(h:Q (.ref I) s):wpAny (model P w) A (pyIter (.ref I)) Q E s:=by
 refine wpAny_pyIter_slot hit.typeIs QO (wpAny_call_entry QO hit.typeIs Zx ?_ (Jt _));show wpAny _ _ (ret (.ref I)) _ _ s;exact uE ⟨_,rfl,"set_iterator",_,hit.typeIs,slot_si_next.lookup,h⟩
theorem qA2{Q:Option Value->Shared->Prop}{o:Obj}{es:Array (Int×Value)}{t:SetTable}{x:Value}{sl:Nat}{nx:Nat}(hit:IterS s.heap I a (.int sl 0) i n ep)
  (ho:s.heap.get? a=some o) (hd:o.data=.set es ep t) (hf:t.fits es.size=true) (hn:es.size=n)
  (hx:∀(A:Around) (E:Value->Shared->Prop) (R:Option (Value×Nat)->Shared->Prop),R (some (x,nx)) s->wpAny (model P w) A (setNext a sl i ep) R E s)
  (hQ:∀h',IterS h' I a (.int nx 0) (i+1) n ep->(∀b o,b≠I->s.heap.get? b=some o->h'.get? b=some o)->Q (some x) { s with heap:=h' }):
  wpAny (model P w) A (pyNext (.ref I)) Q E s:=by
 obtain⟨oI,hoI,hcI,hdI⟩:=id hit;unfold pyNext;refine uD (wpAny_attempt (wpAny_callSpecial?_slot (name:=Str.ofString "__next__") hit.typeIs slot_si_next
  (wpAny_call_entry slot_si_next hit.typeIs qp ?_ (zJ _))))
 unfold Builtin.«set_iterator.__next__»;refine uD (uE ?_);refine uD (wpAny_fieldsOf hoI hdI ?_);dsimp only;refine uD (wpAny_setEntries_of ho hd hf ?_);rw[if_neg (by rw[hn];simp)];simp only[vC];refine uD (hx _ _ _ ?_);dsimp only;refine uD (wpAny_setField hoI hdI (by simp) ?_);have e1:=Heap.get?_update_self (Obj.mapFields (·.setIfInBounds 0 (rawInt (nx:Int)))) hoI (Obj.isFreed_of_fields (Obj.data_mapFields hdI _));have d1:(Obj.mapFields (·.setIfInBounds 0 (rawInt (nx:Int))) oI).data=.fields #[.int nx 0,.int i 0,.ref a,.int n 0,.int ep 0]:=by rw[Obj.data_mapFields hdI];simp[rawInt]
 refine uD (wpAny_setField e1 d1 (by simp) ?_);refine uE ⟨_,rfl,uE (hQ _ ⟨_,Heap.get?_update_self _ e1 (Obj.isFreed_of_fields (Obj.data_mapFields d1 _)),?_,?_⟩ λb o hb e=>?_)⟩
 ·rw[Obj.cls_mapFields,Obj.cls_mapFields];exact hcI
 ·rw[Obj.data_mapFields d1];simp[rawInt]
 ·exact(Heap.get?_update_other _ _ (Ne.symm hb)).trans ((Heap.get?_update_other _ _ (Ne.symm hb)).trans e)
theorem qCg{Q:Option Value->Shared->Prop}{o:Obj}{es:Array (Int×Value)}{t:SetTable}{sl:Nat}(hh:A.handled=none)(hit:IterS s.heap I a (.int sl 0) i n ep)
  (ho:s.heap.get? a=some o) (hd:o.data=.set es ep t) (hf:t.fits es.size=true) (hn:es.size=n)
  (hx:∀(A:Around) (E:Value->Shared->Prop) (R:Option (Value×Nat)->Shared->Prop),R none s->wpAny (model P w) A (setNext a sl i ep) R E s)
  (hQ:∀h',(∀b o,b≠I->s.heap.get? b=some o->h'.get? b=some o)->Q none { s with heap:=h' }):
  wpAny (model P w) A (pyNext (.ref I)) Q E s:=by
 obtain⟨oI,hoI,hcI,hdI⟩:=id hit;unfold pyNext;refine uD (wpAny_attempt (wpAny_callSpecial?_slot (name:=Str.ofString "__next__") hit.typeIs slot_si_next
  (wpAny_call_entry slot_si_next hit.typeIs qp ?_ (zJ _))))
 unfold Builtin.«set_iterator.__next__»;refine uD (uE ?_);refine uD (wpAny_fieldsOf hoI hdI ?_);dsimp only;refine uD (wpAny_setEntries_of ho hd hf ?_);rw[if_neg (by rw[hn];simp)];simp only[vC];refine uD (hx _ _ _ ?_);dsimp only;refine uD (wpAny_setField hoI hdI (by simp) ?_);refine uD ?_;simp only[newExc,newTuple];refine uD (wpAny_newObj_type ?_ (by size_fits));refine uD (m:=firstArgMember _ _) (wpAny_of_eq (a:=Value.none) (by first|rfl|(simp only[firstArgMember];rfl)) ?_);refine wpAny_newObj_type ?_ (by size_fits);simp only[raiseNew];refine uD (wpAny_handled ?_);rw[show A.in1.handled=none from hh];refine uD (uE (wpAny_throw ?_));refine uD (wpAny_isInstance (T:="StopIteration") (b:=true) ⟨_,Heap.get?_push_size _ rfl,rfl⟩ isSubtype_stop ?_);exact uE (hQ _ λb o hb e=>Heap.get?_push_of_some _ (Heap.get?_push_of_some _ ((Heap.get?_update_other _ _ (Ne.symm hb)).trans e)))
theorem qBW{Q:Option Value->Shared->Prop}{o ot:Obj}{es:Array (Int×Value)}{t:SetTable}{x:Value}{h0:Int}{T:Addr}{pl:Array Value}{nt j:Nat}(hit:IterS s.heap I a (.ref T) i n ep)
  (ho:s.heap.get? a=some o) (hd:o.data=.set es ep t) (hf:t.fits es.size=true) (hn:es.size=n)
  (hT:s.heap.get? T=some ot) (hdT:ot.data=.seq pl nt) (hj:pl[i]?=some (.int j 0)) (hx:es[j]?=some (h0,x))
  (hQ:∀h',IterS h' I a (.ref T) (i+1) n ep->(∀b o,b≠I->s.heap.get? b=some o->h'.get? b=some o)->Q (some x) { s with heap:=h' }):
  wpAny (model P w) A (pyNext (.ref I)) Q E s:=by
 obtain⟨oI,hoI,hcI,hdI⟩:=id hit;unfold pyNext;refine uD (wpAny_attempt (wpAny_callSpecial?_slot (name:=Str.ofString "__next__") hit.typeIs slot_si_next
  (wpAny_call_entry slot_si_next hit.typeIs qp ?_ (zJ _))))
 unfold Builtin.«set_iterator.__next__»;refine uD (uE ?_);refine uD (wpAny_fieldsOf hoI hdI ?_);dsimp only;refine uD (wpAny_setEntries_of ho hd hf ?_);rw[if_neg (by rw[hn];simp)];simp only[vC];refine uD (wpAny_seqItems hT hdT ?_);dsimp only;rw[hj];dsimp only;simp only[vC];unfold setNextDrawn;refine uD ?_;refine uD (wpAny_setState_of ho hd hf ?_);dsimp only;rw[if_neg (by simp)];rw[hx];refine uE ?_;refine uD (wpAny_setField hoI hdI (by simp) ?_);refine uE ⟨_,rfl,uE (hQ _ ⟨_,Heap.get?_update_self _ hoI (Obj.isFreed_of_fields (Obj.data_mapFields hdI _)),?_,?_⟩ λb o hb e=>?_)⟩
 ·rw[Obj.cls_mapFields];exact hcI
 ·rw[Obj.data_mapFields hdI];simp[rawInt]
 ·exact(Heap.get?_update_other _ _ (Ne.symm hb)).trans e
theorem qCz{Q:Option Value->Shared->Prop}{o ot:Obj}{es:Array (Int×Value)}{t:SetTable}{T:Addr}{pl:Array Value}{nt:Nat}(hh:A.handled=none)(hit:IterS s.heap I a (.ref T) i n ep)
  (ho:s.heap.get? a=some o) (hd:o.data=.set es ep t) (hf:t.fits es.size=true) (hn:es.size=n)
  (hT:s.heap.get? T=some ot) (hdT:ot.data=.seq pl nt) (hj:pl[i]?=none)
  (hQ:∀h',(∀b o,b≠I->s.heap.get? b=some o->h'.get? b=some o)->Q none { s with heap:=h' }):
  wpAny (model P w) A (pyNext (.ref I)) Q E s:=by
 obtain⟨oI,hoI,hcI,hdI⟩:=id hit;unfold pyNext;refine uD (wpAny_attempt (wpAny_callSpecial?_slot (name:=Str.ofString "__next__") hit.typeIs slot_si_next
  (wpAny_call_entry slot_si_next hit.typeIs qp ?_ (zJ _))))
 unfold Builtin.«set_iterator.__next__»;refine uD (uE ?_);refine uD (wpAny_fieldsOf hoI hdI ?_);dsimp only;refine uD (wpAny_setEntries_of ho hd hf ?_);rw[if_neg (by rw[hn];simp)];simp only[vC];refine uD (wpAny_seqItems hT hdT ?_);dsimp only;rw[hj];dsimp only;refine uD (wpAny_setField hoI hdI (by simp) ?_);have e1:=Heap.get?_update_self (Obj.mapFields (·.setIfInBounds 0 (rawInt 0))) hoI (Obj.isFreed_of_fields (Obj.data_mapFields hdI _));have d1:(Obj.mapFields (·.setIfInBounds 0 (rawInt 0)) oI).data=.fields #[.int 0 0,.int i 0,.ref a,.int n 0,.int ep 0]:=by rw[Obj.data_mapFields hdI];simp[rawInt]
 refine uD (wpAny_setField e1 d1 (by simp) ?_);refine uD ?_;simp only[newExc,newTuple];refine uD (wpAny_newObj_type ?_ (by size_fits));refine uD (m:=firstArgMember _ _) (wpAny_of_eq (a:=Value.none) (by first|rfl|(simp only[firstArgMember];rfl)) ?_);refine wpAny_newObj_type ?_ (by size_fits);simp only[raiseNew];refine uD (wpAny_handled ?_);rw[show A.in1.handled=none from hh];refine uD (uE (wpAny_throw ?_));refine uD (wpAny_isInstance (T:="StopIteration") (b:=true) ⟨_,Heap.get?_push_size _ rfl,rfl⟩ isSubtype_stop ?_);exact uE (hQ _ λb o hb e=>Heap.get?_push_of_some _ (Heap.get?_push_of_some _ ((Heap.get?_update_other _ _ (Ne.symm hb)).trans ((Heap.get?_update_other _ _ (Ne.symm hb)).trans e))))
end
theorem J6{α:Type}{l:List α}{i:Nat}(hi:i<l.length):(l[i]::l.eraseIdx i).Perm l:=by
 rw[List.eraseIdx_eq_take_drop_succ];refine List.perm_middle.symm.trans ?_;rw[List.getElem_cons_drop,List.take_append_drop]
theorem qBL{α:Type}(next:Nat->Nat):∀(fuel k:Nat) (left:List α) (out:Array α),left.length<=fuel->(pickOrder.go next fuel k left out).toList.Perm (out.toList++left):=by
 intro fuel
 induction fuel with
 |zero=>
  intro k left out h;have:left=[]:=vW (by omega);subst this;simp[pickOrder.go]
 |succ fuel ih=>
  intro k left out h;unfold pickOrder.go;split
  ·rename_i x e;obtain⟨hi,rfl⟩:=wB.mp e;refine(ih _ _ _ (by rw[List.length_eraseIdx_of_lt hi];omega)).trans ?_;rw[Array.toList_push,wm];exact List.Perm.append_left _ (J6 hi)
  ·rename_i e;have:left=[]:=by
    rcases left with _|⟨x,left⟩
    ·rfl
    ·have:=List.getElem?_eq_none_iff.mp e;have:=uC (next k) (show 0<(x::left).length by simp);omega
   subst this;simp
theorem W1{α:Type}(next:Nat->Nat)(xs:Array α):(pickOrder next xs).toList.Perm xs.toList:=by
 unfold pickOrder;simpa using qBL next xs.size 0 xs.toList #[] (by simp)
section
variable{P:Program}{w:World}{A:Around}{E:Value->Shared->Prop}{s:Shared}{I a:Addr}{first:Value}{i n ep:Nat}
theorem qBh{α:Type}:∀(n:Nat) (xs:List α) (s:Shared){Q:List α->Shared->Prop},xs.length=n->(∀ys d,ys.Perm xs->Q ys { s with drawn:=d })->wpAny (model P w) A (drawOrder n xs) Q E s:=by
 intro n
 induction n with
 |zero=>
  intro xs s Q hl h;have:xs=[]:=vW hl;subst this;exact uE (h [] s.drawn .nil)
 |succ n ih=>
  intro xs s Q hl h;rcases xs with _|⟨x0,xs⟩
  ·simp at hl
  ·unfold drawOrder;refine uD ?_;have ch:∀(R:Nat->Shared->Prop),(∀j d,j<(x0::xs).length->R j { s with drawn:=d })->wpAny (model P w) A (choose .order (x0::xs).length) R E s:=by
    intro R hR Γ p hΓ;show Sem.wp _ _ (.choose _ _ _) _ _ _ _;rw[Sem.wp_choose];exact⟨by simp,hR _ _ (uC _ (by simp))⟩
   refine ch _ λj d hj=>?_;rw[wD hj];dsimp only;refine uD (ih _ _ (by rw[List.length_eraseIdx_of_lt hj];simp at hl ⊢;omega) λys d' hp=>uE ?_);exact h _ d' ((hp.cons _).trans (J6 hj))
variable{o:Obj}{es:Array (Int×Value)}{t:SetTable}{sl:Nat}{R:Option (Value×Nat)->Shared->Prop}
theorem Jl(hb:jV w=true)(ho:s.heap.get? a=some o)(hd:o.data=.set es ep t)(hf:t.fits es.size=true)
  (h:R (((pickOrder (w.params.setOrder a ep) es)[i]?).map λe=>(e.2,sl)) s):wpAny (model P w) A (setNext a sl i ep) R E s:=by
 have by_:∀(R:Bool->Shared->Prop),R true s->wpAny (model P w) A setsByText R E s:=λR h=>by
  unfold setsByText;refine uD (wpAny_askSetting (uE ?_));show R (jV w) s;rw[hb];exact h
 unfold setNext;refine uD (wpAny_setState_of ho hd hf ?_);dsimp only;refine uD (by_ _ ?_);rw[if_pos rfl,if_neg (by simp)];unfold setWalk;refine uD ?_;refine uD (wpAny_setState_of ho hd hf ?_);dsimp only;refine uD (by_ _ ?_);rw[if_pos rfl];refine uD (wpAny_askSetting (uE ?_));exact uE h
theorem Zr(hb:jV w=false)(ho:s.heap.get? a=some o)(hd:o.data=.set es ep t)(hf:t.fits es.size=true)(hl:t.led=true)(hp:(!t.plain&&decide (es.size>1))=false)
  (h:R (match es[SetTable.below t.place sl]?,t.place[SetTable.below t.place sl]? with|some (_,x),some j=>some (x,j+1)|_,_=>none) s):wpAny (model P w) A (setNext a sl i ep) R E s:=by
 have by_:∀(R:Bool->Shared->Prop),R false s->wpAny (model P w) A setsByText R E s:=λR h=>by
  unfold setsByText;refine uD (wpAny_askSetting (uE ?_));show R (jV w) s;rw[hb];exact h
 unfold setNext;refine uD (wpAny_setState_of ho hd hf ?_);dsimp only;refine uD (by_ _ ?_);rw[if_neg (by decide)];show wpAny _ _ (if (!t.plain&&decide (es.size>1))=true then _ else _) _ _ _;rw[hp,if_neg (by decide)];refine uD (m:=ite ((!t.led&&!es.isEmpty)=true) _ _) ?_;rw[hl,if_neg (by simp)];refine uE ?_;exact uE h
end
open PySem.W
section
variable{P:Program}{w:World}{A:Around}{E:Value->Shared->Prop}{s:Shared}{I a:Addr}{n ep:Nat}
variable{o:Obj}{es:Array (Int×Value)}{t:SetTable}
theorem B1(hh:A.handled=none)(hne:a≠I)(hd:o.data=.set es ep t)(hf:t.fits es.size=true)(hn:es.size=n)(vs:List Value)(sl:Nat->Nat)
  (nx:∀(i:Nat) (hi:i<vs.length) (s:Shared),s.heap.get? a=some o->∀(A:Around) (E:Value->Shared->Prop) (R:Option (Value×Nat)->Shared->Prop),R (some (vs[i],sl (i+1))) s->wpAny (model P w) A (setNext a (sl i) i ep) R E s)
  (en:∀(s:Shared),s.heap.get? a=some o->∀(A:Around) (E:Value->Shared->Prop) (R:Option (Value×Nat)->Shared->Prop),R none s->wpAny (model P w) A (setNext a (sl vs.length) vs.length ep) R E s):
  WalksS P w A I [I,a] [I] (λa b=>b=a) vs.length (λi v=>vs[i]?=some v) (λi s=>IterS s.heap I a (.int (sl i) 0) i n ep/\s.heap.get? a=some o) where
 sub:=λb hb=>by simp at hb;simp[hb]
 grefl:=λ_=>rfl
 gtrans:=λ_ _ _ x y=>y.trans x
 frame:=λi s h' tk st _ hk=>⟨st.1.at λo e=>hk I (by simp) o e,hk a (by simp) o st.2⟩
 item:=λi s Q E hi st hQ=>by
  refine qA2 st.1 st.2 hd hf hn (λA E R hR=>nx i hi s st.2 A E R hR) λh' it k=>?_;exact hQ _ _ (by simp[hi]) ⟨it,k a o hne st.2⟩ ⟨λb o hb e=>k b o (λz=>hb (by simp[z])) e,rfl,rfl,rfl,wF _⟩
 done:=λs Q E st hQ=>by
  refine qCg hh st.1 st.2 hd hf hn (λA E R hR=>en s st.2 A E R hR) λh' k=>?_;exact hQ _ ⟨λb o hb e=>k b o (λz=>hb (by simp[z])) e,rfl,rfl,rfl,wF _⟩
 self:=λ_ _ _ _ st hQ=>U6 st.1 hQ
theorem D3{T:Addr}{ot:Obj}{pl:Array Value}{nt:Nat}(hh:A.handled=none)(hne:a≠I)(hT:T≠I)(hd:o.data=.set es ep t)(hf:t.fits es.size=true)(hn:es.size=n)(hdT:ot.data=.seq pl nt)(vs:List Value)
  (hv:∀i (hi:i<vs.length),∃(j:Nat) (h0:Int),pl[i]?=some (.int j 0)/\es[j]?=some (h0,vs[i])) (he:pl[vs.length]?=none):
  WalksS P w A I [I,a,T] [I] (λa b=>b=a) vs.length (λi v=>vs[i]?=some v) (λi s=>IterS s.heap I a (.ref T) i n ep/\s.heap.get? a=some o/\s.heap.get? T=some ot) where
 sub:=λb hb=>by simp at hb;simp[hb]
 grefl:=λ_=>rfl
 gtrans:=λ_ _ _ x y=>y.trans x
 frame:=λi s h' tk st _ hk=>⟨st.1.at λo e=>hk I (by simp) o e,hk a (by simp) o st.2.1,hk T (by simp) ot st.2.2⟩
 item:=λi s Q E hi st hQ=>by
  obtain⟨j,h0,e1,e2⟩:=hv i hi;refine qBW st.1 st.2.1 hd hf hn st.2.2 hdT e1 e2 λh' it k=>?_;exact hQ _ _ (by simp[hi]) ⟨it,k a o hne st.2.1,k T ot hT st.2.2⟩ ⟨λb o hb e=>k b o (λz=>hb (by simp[z])) e,rfl,rfl,rfl,wF _⟩
 done:=λs Q E st hQ=>by
  refine qCz hh st.1 st.2.1 hd hf hn st.2.2 hdT he λh' k=>?_;exact hQ _ ⟨λb o hb e=>k b o (λz=>hb (by simp[z])) e,rfl,rfl,rfl,wF _⟩
 self:=λ_ _ _ _ st hQ=>U6 st.1 hQ
def qDW(P:Program)(w:World)(A:Around)(s s1:Shared)(a I:Addr)(vs:List Value):Prop:=
 ∃(fp:List Addr) (St:Nat->Shared->Prop),WalksS P w A I fp [I] (λa b=>b=a) vs.length (λi v=>vs[i]?=some v) St/\St 0 s1/\s.heap.objs.size<=I/\(∀b∈fp,b=a\/s.heap.objs.size<=b)
  /\ (∀b o,s.heap.get? b=some o->s1.heap.get? b=some o)/\s1={ s with heap:=s1.heap,drawn:=s1.drawn }
theorem w6{Q:Value->Shared->Prop}(A':Around)(hh:A'.handled=none)(ho:s.heap.get? a=some o)(hx:o.ExactSet)(hd:o.data=.set es ep t)(hf:t.fits es.size=true)(hb:es.size<scanBound)(gd:zm t (jV w))
  (fin:∀(I:Addr) (vs:List Value) (s1:Shared),vs.Perm (es.toList.map (·.2))->qDW P w A' s s1 a I vs->Q (.ref I) s1):
  wpAny (model P w) A (pyIter (.ref a)) Q E s:=by
 have hT:s.TypeIs (.ref a) "set":=⟨o,ho,hx.1⟩
 have la:a<s.heap.objs.size:=Heap.lt_size ho;refine wpAny_pyIter_slot hT F.slot_set_iter (wpAny_call_entry F.slot_set_iter hT A8 ?_ (F.args_set_iter_1 _));unfold Builtin.«frozenset.__iter__» Builtin.Frozenset.slot0 slotArgs;simp only[List.isEmpty_nil,Bool.not_true,vK,↓reduceIte,bind_assoc,List.length_nil,bne_self_eq_false];unfold Builtin.Frozenset.addrOf Builtin.Frozenset.sizeOf setDrawn setsByText;refine uD (uE ?_)
 try dsimp only
 refine uD (uE ?_);refine uD (uD (wpAny_setEntries_of ho hd hf (uE ?_)));refine uD (uD (wpAny_setState_of ho hd hf ?_));refine uD (uD (wpAny_askSetting (uE ?_)));refine uE ?_;show wpAny _ _ (if (!jV w&&(!t.plain&&decide (es.size>1)))=true then _ else _) _ _ _;by_cases c:(!jV w&&(!t.plain&&decide (es.size>1)))=true
 ·rw[if_pos c];refine uD (qBh _ _ _ (by simp) λys d hp=>?_);have hys:ys.length=es.size:=by rw[hp.length_eq];simp
  refine uD (wpAny_newTuple ?_ (by rw[wO,hys];exact wH (wv hb) (by decide)));have ho1:(s.heap.push { cls:=.type "tuple",data:=.seq (ys.map λ(i:Nat)=>rawInt i).toArray }).get? a=some o:=Heap.get?_push_of_some _ ho;refine uD (wpAny_setEpoch_of (o:=o) ho1 hd hf ?_);refine uD (wpAny_newObj_type (uE ⟨_,rfl,"set_iterator",_,⟨_,Heap.get?_push_size _ rfl,rfl⟩,slot_si_next.lookup,?_⟩));have hT0:(s.heap.push { cls:=.type "tuple",data:=.seq (ys.map λ(i:Nat)=>rawInt i).toArray }).get? s.heap.objs.size=some { cls:=.type "tuple",data:=.seq (ys.map λ(i:Nat)=>rawInt i).toArray }:=Heap.get?_push_size _ rfl;have sz:(s.heap.push { cls:=.type "tuple",data:=.seq (ys.map λ(i:Nat)=>rawInt i).toArray }).objs.size=s.heap.objs.size+1:=size_push' _ _;have mem:∀j∈ys,j<es.size:=λj hj=>by have:=hp.mem_iff.mp hj;simpa using this
  refine fin _ (ys.map λj=>(es.toList.map (·.2)).getD j .none) _ ?_ ⟨_,_,D3 (T:=s.heap.objs.size) (o:=o) hh ?_ ?_ hd hf rfl rfl _ ?_ ?_,⟨⟨_,Heap.get?_push_size _ rfl,rfl,?_⟩,Heap.get?_push_of_some _ ho1,Heap.get?_push_of_some _ hT0⟩,?_,?_,?_,rfl⟩
  ·refine(hp.map _).trans (List.Perm.of_eq ?_);apply vq
   ·simp
   ·intro i h1 h2;simp at h1;simp[h1]
  ·rw[sz];exact wU (vj la)
  ·rw[sz];exact wU (vU _)
  ·intro i hi;simp at hi;have hj:=mem ys[i] (vV hi);refine⟨ys[i],es[ys[i]].1,?_,?_⟩
   ·simp[hi,rawInt]
   ·simp[hj]
  ·simp
  ·rfl
  ·rw[sz];omega
  ·intro b hb';simp[sz]at hb';rcases hb' with rfl|rfl|rfl
   ·exact .inr (Nat.le_succ _)
   ·exact .inl rfl
   ·exact .inr (wF _)
  ·exact λb o e=>Heap.get?_push_of_some _ (Heap.get?_push_of_some _ e)
 ·rw[if_neg c];refine uD (uE ?_);refine uD (wpAny_setEpoch_of (o:=o) ho hd hf ?_);refine uD (wpAny_newObj_type (uE ⟨_,rfl,"set_iterator",_,⟨_,Heap.get?_push_size _ rfl,rfl⟩,slot_si_next.lookup,?_⟩));have pl:t.place.size=es.size:=by
   simp only[SetTable.fits,wE,beq_iff_eq]at hf;exact hf.1
  cases hm:jV w with
  |true=>
   have pm:=W1 (w.params.setOrder a ep) es;refine fin _ ((pickOrder (w.params.setOrder a ep) es).toList.map (·.2)) _ (pm.map _) ⟨_,_,B1 (o:=o) hh (wU la) hd hf rfl _ (λ_=>0) ?_ ?_,⟨⟨_,Heap.get?_push_size _ rfl,rfl,rfl⟩,Heap.get?_push_of_some _ ho⟩,wF _,?_,?_,rfl⟩
   ·intro i hi s ho A E R hR;refine Jl hm ho hd hf ?_;simp at hi;simpa [hi] using hR
   ·intro s ho A E R hR;refine Jl hm ho hd hf ?_;simpa using hR
   ·intro b hb';simp at hb';rcases hb' with rfl|rfl
    ·exact .inr (wF _)
    ·exact .inl rfl
   ·exact λb o e=>Heap.get?_push_of_some _ e
  |false=>
   rw[hm]at c gd;have c':(!t.plain&&decide (es.size>1))=false:=by simpa using c
   have gl:=gd.led rfl;have hsl:∀i,i<=es.size->SetTable.below t.place (if i=0 then 0 else t.place.getD (i-1) 0+1)=i:=by
    intro i hi;split
    ·rename_i e;rw[e];exact O8 gd.rise
    ·rw[N9 gd.rise (by omega)];omega
   refine fin _ (es.toList.map (·.2)) _ (.refl _) ⟨_,_,B1 (o:=o) hh (wU la) hd hf rfl _ (λi=>if i=0 then 0 else t.place.getD (i-1) 0+1) ?_ ?_,⟨⟨_,Heap.get?_push_size _ rfl,rfl,rfl⟩,Heap.get?_push_of_some _ ho⟩,wF _,?_,?_,rfl⟩
   ·intro i hi s ho A E R hR;refine Zr hm ho hd hf gl c' ?_;simp at hi;rw[hsl i (by omega)];have:i<t.place.size:=by omega
    simpa [hi,this] using hR
   ·intro s ho A E R hR;refine Zr hm ho hd hf gl c' ?_;rw[hsl _ (by simp)];simpa using hR
   ·intro b hb';simp at hb';rcases hb' with rfl|rfl
    ·exact .inr (wF _)
    ·exact .inl rfl
   ·exact λb o e=>Heap.get?_push_of_some _ e
theorem m7{Q:Bool->Shared->Prop}(hT:s.TypeIs (.ref a) "set")(h:Q false s):wpAny (model P w) A (Builtin.List.listLengthHint (.ref a)) Q E s:=by
 unfold Builtin.List.listLengthHint;refine uD (wpAny_specialOf hT F.slot_set_len.lookup ?_);generalize hid:("set.__len__":String)=id0
 wp_delta
 rw[show splitId id0=some ("set","__len__") from by subst hid;decide +kernel];subst hid;refine uD (wpAny_isInstance (T:="set") (b:=true) hT (by rw[isSubtype_type];kernel_rfl) ?_);refine wpAny_ite_split (λhab=>absurd hab (by decide)) (λ_=>?_);refine wpAny_ite_split (λ_=>?_) (λhab=>absurd (by decide +kernel) hab);refine uD (wpAny_typeOf hT ?_);exact uE h
theorem k8{acc:Array Value}{vs:List Value}(h:ItemsOf (λi v=>vs[i]?=some v) acc vs.length):acc.toList=vs:=by
 apply vq
 ·rw[wa];exact h.1
 ·intro i h1 h2;have:=h.2 i acc.toList[i] (by rw[<-Array.getElem?_toList];exact wD h1);exact Option.some.inj ((this:vs[i]?=_).symm.trans (wD h2))
theorem E3{R:List Value->Shared->Prop}(hh:A.handled=none)(ho:s.heap.get? a=some o)(hx:o.ExactSet)(hd:o.data=.set es ep t)(hf:t.fits es.size=true)(hb:es.size<scanBound)(gd:zm t (jV w))
  (h:∀(h':Heap) (tk:Nat) (d:Drawn) (vs:List Value),(∀b o,s.heap.get? b=some o->h'.get? b=some o)->s.heap.objs.size<h'.objs.size->vs.Perm (es.toList.map (·.2))->R vs { s with heap:=h',toks:=tk,drawn:=d }):
  wpAny (model P w) A (collect (.ref a)) R E s:=by
 have la:=Heap.lt_size ho;unfold collect;refine uD (wpAny_runValue (codeAny_builtin entry_proto_collect' ?_));rw[Around.under_plainId F.plain_proto_collect _];show wpAny _ A.in1 (newList [] >>=λl=>again (.builtin "list.__iadd__" ⟨[l,.ref a],[]⟩)) _ _ s;refine uD (wpAny_newObj_type ?_);refine uE ⟨plainId_quiet F.plain_list_iadd _,codeAny_builtin entry_list_iadd' ?_⟩;rw[Around.under_plainId F.plain_list_iadd _];have hS₁:(s.heap.push { cls:=.type "list",data:=.seq ([]:List Value).toArray }).get? s.heap.objs.size=some { cls:=.type "list",data:=.seq #[] }:=Heap.get?_push_size _ rfl;have ho1:(s.heap.push { cls:=.type "list",data:=.seq ([]:List Value).toArray }).get? a=some o:=Heap.get?_push_of_some _ ho;show wpAny _ A.in1 (Builtin.List.listExtendWith (.ref s.heap.objs.size) (.ref a) (.ref s.heap.objs.size)) _ _ _;have hT:Shared.TypeIs { s with heap:=s.heap.push { cls:=.type "list",data:=.seq ([]:List Value).toArray } } (.ref a) "set":=⟨o,ho1,hx.1⟩
 have neS:s.heap.objs.size≠a:=vi la;have zS:=size_push' s.heap { cls:=.type "list",data:=.seq ([]:List Value).toArray };have old:∀b o,s.heap.get? b=some o->(s.heap.push { cls:=.type "list",data:=.seq ([]:List Value).toArray }).get? b=some o/\b≠s.heap.objs.size:=λb o e=>⟨Heap.get?_push_of_some _ e,wU (Heap.lt_size e)⟩
 generalize s.heap.objs.size=S at *;unfold Builtin.List.listExtendWith;refine uD (wpAny_typeOf hT ?_);have h1:Builtin.List.listSameRef (.ref S) (.ref a)=false:=by simp[Builtin.List.listSameRef,neS]
 simp only[h1,show (Value.type "set"==Value.type "list")=false by decide,show (Value.type "set"==Value.type "tuple")=false by decide,Bool.or_false,vK,if_false];refine uD (w6 A.in1 hh ho1 hx hd hf hb gd λI vs s1 pm way=>?_);obtain⟨fp,St,W,st,hI,hfp,k1,e1⟩:=way;have hSf:S∉fp:=λz=>(hfp S z).elim neS λq=>by
  have:S+1<=S:=by rw[<-zS];exact q
  exact absurd this (Nat.not_succ_le_self _)
 have hSI:S≠I:=λz=>by
  have:S+1<=S:=by rw[<-zS];exact z ▸ hI
  exact absurd this (Nat.not_succ_le_self _)
 have hT1:s1.TypeIs (.ref a) "set":=⟨o,k1 _ _ ho1,hx.1⟩
 have S1:=k1 _ _ hS₁;have hn:vs.length<=sizeLine:=by rw[pm.length_eq,wO,wa];exact wH (wv hb) (by decide)
 refine uD (wpAny_holding (m7 hT1 ?_));have key:∀(s2:Shared) (c₁:Nat),St 0 s2->(∀b o,b≠S->s1.heap.get? b=some o->s2.heap.get? b=some o)->s2={ s1 with heap:=s2.heap } ->
   s2.heap.get? S=some { cls:=.type "list",data:=.seq #[] c₁ } ->
   codeAny (model P w) A (.builtin "list.extend.loop" ⟨[.ref S,.ref I,.ref S],[]⟩) (λq s'=>q=.ok (.ret (.ref S))/\∃(h':Heap) (tk:Nat) (d:Drawn) (c':Nat),s'={ s with heap:=h',toks:=tk,drawn:=d }/\(∀b o,s.heap.get? b=some o->h'.get? b=some o)/\h'.get? S=some { cls:=.type "list",dict:=none,data:=.seq vs.toArray c',slots:=#[] }) s2:=by
  intro s2 c₁ hst hk es2 hS2;refine codeAny_extend_loopS W hn S hSf (.ref S) vs.length 0 _ #[] c₁ rfl (vM _) hst hS2 (ItemsOf.nil _) λs' acc' c' hm hS' hacc=>⟨rfl,s'.heap,s'.toks,s'.drawn,c',?_,λb o e=>?_,?_⟩
  ·rw[Moved.eq_with hm,es2,e1]
  ·refine hm.heap b o (λz=>?_) (hk b o (old b o e).2 (k1 b o (old b o e).1));rcases wP.mp z with z|z
   ·exact(old b o e).2 z
   ·have z:=wY.mp z;subst z;exact absurd (wG (Heap.lt_size (old _ o e).1) hI) (wf _)
  ·rw[<-k8 hacc];simpa using hS'
 refine wpAny_ite_split (λ_=>?_) (λ_=>?_)
 ·refine uD (wpAny_rule ?_);refine uD ?_;show wpAny _ _ (updateSeq S (·.push .none) >>=λ_=>updateSeq S (·.pop)) _ _ _;refine uD (wpAny_updateSeq S1 rfl ?_);have hS₂:=Heap.get?_update_self (Obj.mapSeq (·.push Value.none)) S1 rfl;refine wpAny_updateSeq (hz:=by seq_fits) hS₂ rfl ?_;have hS₃:=Heap.get?_update_self (Obj.mapSeq (·.pop)) hS₂ rfl;have up:∀b o,b≠S->s1.heap.get? b=some o->((s1.heap.update S (Obj.mapSeq (·.push Value.none))).update S (Obj.mapSeq (·.pop))).get? b=some o:=
   λb o hbS e=>(Heap.get?_update_other _ _ (Ne.symm hbS)).trans ((Heap.get?_update_other _ _ (Ne.symm hbS)).trans e)
  refine uE ⟨plainId_quiet F.plain_extend_loop _,codeAny_mono (key _ _ (W.frame 0 s1 _ s1.toks st (wF _) λb hb' o e=>up b o (λh=>hSf (h ▸ hb')) e) up rfl hS₃) λq s' x=>?_⟩;obtain⟨rfl,h',tk,d,c',rfl,hk,hS'⟩:=x;show wpAny _ A (load S >>=_) _ _ _;refine uD (wpAny_load hS' ?_);exact uE (h h' tk d vs hk (Heap.lt_size hS') pm)
 ·refine uE ⟨plainId_quiet F.plain_extend_loop _,codeAny_mono (key _ 0 st (λb o _ e=>e) rfl S1) λq s' x=>?_⟩;obtain⟨rfl,h',tk,d,c',rfl,hk,hS'⟩:=x;show wpAny _ A (load S >>=_) _ _ _;refine uD (wpAny_load hS' ?_);exact uE (h h' tk d vs hk (Heap.lt_size hS') pm)
theorem S8(k:Int):∀(L acc:List Int),k∈L.foldl step_dedup acc↔k∈acc\/k∈L:=by
 intro L
 induction L with
 |nil=>intro acc;simp
 |cons x L ih=>
  intro acc;rw[List.foldl_cons,ih];unfold step_dedup;split
  ·rename_i q;obtain⟨y,hy,e⟩:=ve.mp q;have:y=x:=by simpa using e
   subst this;simp only[wP];exact⟨λz=>z.elim .inl λz=>.inr (.inr z),λz=>z.elim .inl λz=>z.elim (λz=>.inl (z ▸ hy)) .inr⟩
  ·simp only[wL,wP,wt,or_false,or_assoc]
theorem C9:∀(L acc:List Int),acc.Nodup->(L.foldl step_dedup acc).Nodup:=by
 intro L
 induction L with
 |nil=>intro acc h;exact h
 |cons x L ih=>
  intro acc h;rw[List.foldl_cons];refine ih _ ?_;unfold step_dedup;split
  ·exact h
  ·rename_i q;rw[vE];refine⟨h,by simp,λy hy z hz=>?_⟩;have hz:z=x:=by simpa using hz
   subst hz;intro e;exact q (ve.mpr ⟨y,hy,by simp[e]⟩)
theorem k6{k:Int}{L:List Int}:k∈uniq L↔k∈L:=by unfold uniq;rw[S8];simp
theorem Zp(L:List Int):(uniq L).Nodup:=C9 L [] vd
theorem Qa(L:List Int):firstMet (λi=>L.getD i 0) L.length=uniq L:=by
 unfold firstMet uniq;congr 1;apply vq
 ·simp
 ·intro i h1 h2;simp at h1;simp[h1]
theorem jU{α:Type}[DecidableEq α]{l k:List α}(hl:l.Nodup)(hs:∀x∈l,x∈k)(hn:k.length<=l.length):k.Perm l:=by
 induction l generalizing k with
 |nil=>
  have:k=[]:=vW (by simpa using hn);subst this;exact .nil
 |cons x l ih=>
  obtain⟨h1,h2⟩:=vR.mp hl;have hx:=hs x (wN);have p:=List.perm_cons_erase hx;refine p.trans (List.Perm.cons x (ih h2 (λy hy=>?_) ?_))
  ·have:y≠x:=λe=>h1 (e ▸ hy);exact(List.mem_erase_of_ne this).mpr (hs y (wI _ hy))
  ·rw[List.length_erase_of_mem hx];simp at hn;omega
theorem P3{L:List Int}{Q:Value->Shared->Prop}(hh:A.handled=none)(g:SetG P w (jV w) s.heap a (i9 (λi=>L.getD i 0) L.length) (uniq L).length)(h64:(uniq L).length<64)
  (h:∀(D:Addr) (h':Heap) (tk:Nat) (d:Drawn) (out:Array Value) (ns:List Int) (e:Nat),IntsAre out.toList ns->ns.Perm (uniq L)->ns.Pairwise (·<=·)->s.heap.objs.size<=D->h'.get? D=some (seqObj "list" out e) ->
   (∀b o,s.heap.get? b=some o->h'.get? b=some o)->Q (.ref D) { s with heap:=h',toks:=tk,drawn:=d }):
  wpAny (model P w) A (call (.builtin "sorted") [.ref a]) Q E s:=by
 obtain⟨o,es,ep,t,ho,hx,hd,hel,hmem,hb,hf,hn,gd⟩:=g;refine Calls.call_function_entry kind_sorted plain_sorted entry_sorted (args_sorted1 _) ?_;unfold Builtin.«sorted»;refine uD (m:=checkCount "sorted" 1 1 _) (uE ?_);refine uD (E3 (A:=A.in1) hh ho hx hd hf hb gd λh' tk d vs hk hlt pm=>?_);have un:(uniq L).length<=L.length:=by rw[<-Qa];exact firstMet_length_le _ _
 have hvl:vs.length=(uniq L).length:=by rw[pm.length_eq,wO,wa,hn]
 have intv:∀v∈vs,∃k tt,v=Value.int k tt:=λv hv=>by
  obtain⟨e,he,rfl⟩:=vN.mp (pm.mem_iff.mp hv);obtain⟨⟨k,hk,_⟩,_⟩:=hel e he;obtain⟨tt,q⟩:=Value.isInt_shape hk;exact⟨k,tt,q⟩
 have ex:∃zs:List Int,IntsAre vs zs/\∀k tt,Value.int k tt∈vs->k∈zs:=by
  clear pm hvl
  induction vs with
  |nil=>exact⟨[],.nil,λ_ _ z=>by simp at z⟩
  |cons v vs ih=>
   obtain⟨k,tt,rfl⟩:=intv _ (wN);obtain⟨zs,z1,z2⟩:=ih λv hv=>intv v (wI _ hv);exact⟨k::zs,.cons k tt z1,λk' tt' z=>(wP.mp z).elim (λz=>by cases z;exact wN) λz=>wI _ (z2 _ _ z)⟩
 obtain⟨zs,hI,hz⟩:=ex;have pz:zs.Perm (uniq L):=by
  refine jU (Zp L) (λk hk=>?_) (by rw[<-IntsAre.length hI,hvl];exact wF _);have:i9 (λi=>L.getD i 0) L.length k=true:=by
   unfold i9;rw[Qa];exact ve.mpr ⟨k,hk,by simp⟩
  obtain⟨e,he,q⟩:=(hmem k).mp this;obtain⟨tt,q⟩:=Value.isInt_shape q;exact hz k tt (pm.mem_iff.mpr (vN.mpr ⟨e,he,q⟩))
 refine uD (wpAny_newList ?_ (by rw[hvl,sizeLine_eq];omega));have hoL:(h'.push (seqObj "list" vs.toArray 0)).get? h'.objs.size=some (seqObj "list" vs.toArray 0):=Heap.get?_push_size _ rfl;refine uD (wpAny_holding (wpAny_call_entry slot_list_sort ⟨_,hoL,rfl⟩ entry_list_sort (list_sort_tree hoL hI (by rw[hvl];omega) λout ns' a1 a2 a3=>⟨_,rfl,?_⟩) (args_list_sort _)));refine uE ⟨_,rfl,?_⟩;obtain⟨e,he⟩:=sortedHeap_at (vs:=vs) (out:=out) hoL;refine h _ _ tk d out ns' e a1 (a2.trans pz) a3 (wv hlt) he λb o e=>?_;have lb:=Heap.lt_size (hk b o e);rw[sortedHeap_old (wU lb) (by rw[size_push'];exact vj lb)];exact Heap.get?_push_of_some _ (hk b o e)
end
def V2(P:Program)(w:World)(a:Addr)(L:List Int):Heap->Prop:=λh=>SetG P w (jV w) h a (i9 (λi=>L.getD i 0) L.length) (uniq L).length
theorem a6{X:Cx}{pins:List (Addr×Obj)}{σ:List (Option V)}{H:Hp}{s:Shared}(I:Inv X pins σ H s)(d:Drawn):Inv X pins σ H { s with drawn:=d }:=
 ⟨I.ok,I.os,I.bare,I.base,I.loc,I.cell,I.free,I.freeC,I.pin,I.hok,I.len⟩
section
variable{X:Cx}
theorem P4(hc:X.calm=true):qe X (.type "set") (λxs H Q=>∃p,∃is:List Int,xs=[.ref p]/\SqL X.K H p (is.map V.int)/\is.length<1000/\∀l,H l=none->Q (.ref l) (upd H l (.ext (V2 X.prog X.w l is)))):=by
 intro pins s σ H xs us Q I r ⟨p,is,e,hp,hj,q⟩;subst e;obtain⟨u,rfl,ru⟩:=_L.vals1 r;cases ru;obtain⟨its,rv',pl,_⟩:=I.list hp;have hi:IntsAre its is:=_L.intsAre_of rv';have hl:its.length=is.length:=IntsAre.length hi;refine E7 (its:=its.toArray) (ns:=is) (I.ok.hd hc) pl.isList (by simpa using hi) (by simp[scanBound];omega) λh' tk hS hk=>?_;obtain⟨o,es,ep,t,ho,rst⟩:=id hS;refine⟨.ref s.heap.objs.size,_,I.laid (t':=tk) (λb o' e=>hk b o' (Heap.lt_size e) e) (wF _) ?_,rfl,q _ (I.hok.fresh (wF _))⟩;refine⟨?_,⟨o,ho⟩,λh1 h2 g k=>?_⟩
 ·unfold V2;rw[<-Qa,<-hl];simpa using hS
 ·exact SetG.at g λo e=>k o e
theorem F3(hc:X.calm=true):qe X (.builtin "sorted") (λxs H Q=>∃p,∃L:List Int,xs=[.ref p]/\H p=some (.ext (V2 X.prog X.w p L))/\(uniq L).length<64/\∀l,H l=none->Q (.ref l) (upd H l (.lst ((QJ (uniq L)).map V.int)))):=by
 intro pins s σ H xs us Q I r ⟨p,L,e,hp,hj,q⟩;subst e;obtain⟨u,rfl,ru⟩:=_L.vals1 r;cases ru;have g:V2 X.prog X.w p L s.heap:=(I.hok p _ hp).1;have un:(uniq L).length<=L.length:=by rw[<-Qa];exact firstMet_length_le _ _
 refine P3 (I.ok.hd hc) g hj λD h' tk d out ns e a1 a2 a3 hD hat hk=>?_;have e1:ns=QJ (uniq L):=Zu a3 (JT _) (a2.trans (zR _).symm);subst e1;have hl:=(zR (uniq L)).length_eq;refine⟨.ref D,_,(a6 I d).laid (t':=tk) (o:=.lst ((QJ (uniq L)).map V.int)) (λb o q=>hk b o q) hD ?_,rfl,q _ (I.hok.fresh hD)⟩;refine⟨by rw[wO,hl,sizeLine_eq];omega,out.toList,e,zt a1,?_⟩;rw[Array.toArray_toList];exact hat
end
section
variable{X:Cx}{G:List Addr}{F:Nat->List V->AH->RV}{a:E}{ea:Expr}{pos:Pos}
theorem qBF{p p2 pos2:Pos}(hc:X.calm=true)(hg:_L.Gl X "sorted")(hm:X.mg "sorted"=none)(hg2:_L.Gl X "set")(hm2:X.mg "set"=none)(hn:qS ea=true)(ha:SE X G F ea a):
  SE X G F (.Call (.Name "sorted" p) [.Call (.Name "set" p2) [ea] [] pos2] [] pos) (.sset a):=by
 refine qc (_L.pe_callB (F3 hc) hg hm PyProof.Rows.boot_sorted (_L.pa_cons (_L.pe_callTy (P4 hc) hg2 hm2 PyProof.Rows.boot_set (_L.pa_cons ha _L.pa_nil (qA hn)) (by decide) (by decide) (qA hn) rfl) _L.pa_nil rfl) (by decide) (by decide) rfl rfl) λσc H Q q=>?_;obtain⟨φ,h,σ,v,h',R,rs,e,k⟩:=q;unfold ev at e;obtain⟨⟨x,h1⟩,e1,e⟩:=tK e;refine⟨φ,h,σ,x,h1,R,rs,e1,λφ1 H1 w x1 R1 r1=>?_⟩;dsimp only at e;split at e
 ·rename_i q0;split at e
  ·rename_i ys ey;split at e
   ·rename_i is ei;split at e
    ·rename_i hl;cases e;obtain⟨p',rfl,hp⟩:=qI r1;obtain⟨p'',zs,hp',hs,rs'⟩:=R1.lst ey;rw[hp]at hp';cases hp';have hm':=zT ei;subst hm';have hz:=zG (jD is) rs';subst hz;refine⟨p',is,rfl,hs,hl.1,λl hl'=>⟨l,is,rfl,qD,hl.2,λl2 hl2=>?_⟩⟩;have R2:=R1.same (jl (o:=.ext (V2 X.prog X.w l is)) hl');exact k (φ1++[l2]) _ _ (x1.trans ⟨[_],rfl⟩) (R2.newL hl2 (A3 (jD _))) R2.lastRef
    ·cases e
   ·cases e
  ·cases e
 ·cases e
end
noncomputable def Itz(K:PySem.W.Frag)(a b:Addr):It:=
 ⟨λi H=>∃xs ys x y,SqL K H a xs/\SqL K H b ys/\xs[i]?=some x/\ys[i]?=some y,
  λi H v H'=>∃p x y,H p=none/\v=.ref p/\H'=upd H p (.tup [x,y])/\(∀xs,SqL K H a xs->xs[i]?=some x)/\∀ys,SqL K H b ys->ys[i]?=some y,
  λi H=>∃xs ys,SqL K H a xs/\SqL K H b ys/\(xs.length<=i\/ys.length<=i)⟩
theorem qBP{X:Cx}{pins:List (Addr×Obj)}{σ:_L.St}{H:Hp}{s:Shared}{h':Heap}{T:Addr}{xs:List V}{its:List Value}{ch:List Addr}{t':Nat}(I:Inv X pins σ H s)(hf:∀b∈ch,ZS X pins H b)
  (hT:s.heap.objs.size<=T) (k:∀b o,b∉ch->s.heap.get? b=some o->h'.get? b=some o) (hp:IsTup h' T its.toArray) (hv:Vals xs its) (hz:xs.length<=sizeLine) (hTc:T∉ch):
  Inv X pins σ (upd H T (.tup xs)) { s with heap:=h',toks:=t' }:=by
 have hn:H T=none:=I.hok.fresh hT;have neT:∀b o,s.heap.get? b=some o->b≠T:=λb o e=>wU (wG (Heap.lt_size e) hT);refine I.step (g':=s.gens) (d':=s.drawn) (ch:=ch) (λb hb=>⟨(hf b hb).2.2.2.1,(hf b hb).2.1,(hf b hb).2.2.2.2.1,(hf b hb).2.2.2.2.2⟩) (λb o _ _ hc e _=>k b o hc e) (λb o _ _ hc e _=>⟨o.slots,k b o hc e⟩)
  (λb o _ e n=>by rw[qE (neT b o e)];exact n) (λb o hc e=>⟨o,k b o hc e⟩) (λb ys e=>by rw[qE (_L.ne_of_none e hn)];exact e) (λb o u e=>by rw[qE (_L.ne_of_none e hn)];exact e)
  (λb ps e=>⟨#[],by rw[qE (_L.ne_of_none e hn),e];simp⟩) (λm hm=>?_) (λb u e=>?_) I.bare
 ·obtain⟨o,es,ep,ho,r⟩:=hm;exact⟨o,es,ep,k _ o (λz=>(hf _ z).2.1 rfl) ho,r⟩
 ·by_cases hb:b=T
  ·subst hb;rw[qD]at e;cases e;exact⟨hz,its,hv,hp⟩
  ·rw[qE hb]at e;have nc:∀c u,H c=some u->c∉ch:=λc u q z=>by rw[(hf c z).1]at q;cases q
   refine(I.hok b u e).stay (λc v hc q=>k c v ?_ q) (λc q=>by rw[qE (_L.ne_of_none q hn)];exact q) λc ys q=>by rw[qE (_L.ne_of_none q hn)];exact q
   rcases hc with z|z
   ·rw[z];exact nc b u e
   ·exact nc c _ z
theorem y4{P:Program}{w:World}{K:PySem.W.Frag}{elts:List Expr}{kk:Nat}{tpos:Pos}(z TI TO i1 i2 a b:Addr)(D:ZipApart z TI TO i1 i2 a b):
  A6 P w K (.Tuple elts kk tpos) (Itz K a b) [z,TI,TO,i1,i2] z (λi h=>IsZip h z TI TO .none/\IsPair h TI (.ref i1) (.ref i2)/\(∃x y,IsPair h TO x y)/\h.IsListIter i1 a i/\h.IsListIter i2 b i) where
 mem:=by simp
 obj:=λi h st c hc=>by
  obtain⟨h1,h2,⟨x,y,h3⟩,⟨o4,e4,c4,d4⟩,⟨o5,e5,c5,d5⟩⟩:=st;simp only[wP,wt,or_false]at hc;rcases hc with rfl|rfl|rfl|rfl|rfl
  ·exact⟨_,h1,λv q=>by have q':Data.fields _=Data.cell v:=q;cases q'⟩
  ·exact⟨_,h2,λv q=>by have q':Data.seq _ _=Data.cell v:=q;cases q'⟩
  ·exact⟨_,h3,λv q=>by have q':Data.seq _ _=Data.cell v:=q;cases q'⟩
  ·exact⟨o4,e4,λv q=>by rw[d4]at q;cases q⟩
  ·exact⟨o5,e5,λv q=>by rw[d5]at q;cases q⟩
 keep:=λi h h' st k=>by
  obtain⟨h1,h2,⟨x,y,h3⟩,h4,h5⟩:=st;exact⟨k z (by simp) _ h1,k TI (by simp) _ h2,⟨x,y,k TO (by simp) _ h3⟩,h4.at λo e=>k i1 (by simp) o e,h5.at λo e=>k i2 (by simp) o e⟩
 item:=by
  intro X hP hw hK hc i pins s σ H E I hf st hg;subst hP hw hK;obtain⟨xs,ys,x,y,hq1,hq2,hx,hy⟩:=hg;obtain⟨its1,rv1,p1,_⟩:=I.list hq1;obtain⟨its2,rv2,p2,_⟩:=I.list hq2;obtain⟨u,hu,ru⟩:=rv1.get hx;obtain⟨w',hw',rw'⟩:=rv2.get hy;obtain⟨h1,h2,⟨ta,tb,h3⟩,h4,h5⟩:=st;refine wpAny_pyNext_zip_item D h1 h2 h3 h4 h5 p1.isList p2.isList (x:=u) (y:=w') (by simpa using hu) (by simpa using hw') λh' z1 z2 z3 z4 z5 z6 z7=>?_;refine⟨_,rfl,wpAny_letOwnedTupleGo_zip z1 λh'' g1 gs=>?_⟩;have lt:∀c∈[z,TI,TO,i1,i2],c≠s.heap.objs.size:=λc hc=>by
   have ex:∃o,s.heap.get? c=some o:=by
    simp only[wP,wt,or_false]at hc;rcases hc with rfl|rfl|rfl|rfl|rfl
    ·exact⟨_,h1⟩
    ·exact⟨_,h2⟩
    ·exact⟨_,h3⟩
    ·obtain⟨o,e,_⟩:=h4;exact⟨o,e⟩
    ·obtain⟨o,e,_⟩:=h5;exact⟨o,e⟩
   obtain⟨o,e⟩:=ex;exact wU (Heap.lt_size e)
  have up:∀c o,c≠z->h'.get? c=some o->h''.get? c=some o:=λc o hz e=>gs.extBut c o hz e;have kp:∀c o,c∉[z,TI,TO,i1,i2]->s.heap.get? c=some o->h''.get? c=some o:=λc o hn e=>by
   simp only[wP,wt,or_false,not_or]at hn;exact up c o hn.1 (z7 c o hn.1 hn.2.2.1 hn.2.2.2.1 hn.2.2.2.2 e)
  have ht:IsTup h'' s.heap.objs.size #[u,w']:=⟨_,up _ _ (Ne.symm (lt z (by simp))) z5,rfl,_,rfl⟩
  have I1:=qBP (t':=s.toks) (xs:=[x,y]) (its:=[u,w']) I hf (wF _) kp ht (.cons ru (.cons rw' .nil)) (by show 2<=sizeLine;decide) (λq=>lt _ q rfl);refine⟨.ref s.heap.objs.size,_,I1,rfl,⟨s.heap.objs.size,x,y,I.hok.fresh (wF _),rfl,rfl,λzs hz=>by rw[I.list_inj hz hq1];exact hx,λzs hz=>by rw[I.list_inj hz hq2];exact hy⟩,
   ⟨g1,up _ _ D.TIz (z7 TI _ D.TIz D.TITO D.TIi1 D.TIi2 h2),⟨_,_,up _ _ D.TOz z2⟩,z3.at λo e=>up _ o D.i1z e,z4.at λo e=>up _ o D.i2z e⟩,λc hc=>?_⟩
  rw[qE (lt c hc)];exact(hf c hc).1
 done:=by
  intro X hP hw hK hc i pins s σ H E I hf st hg;subst hP hw hK;obtain⟨xs,ys,hq1,hq2,hl⟩:=hg;obtain⟨its1,rv1,p1,_⟩:=I.list hq1;obtain⟨its2,rv2,p2,_⟩:=I.list hq2;obtain⟨h1,h2,⟨ta,tb,h3⟩,h4,h5⟩:=st;have n1:=rv1.length;have n2:=rv2.length;refine wpAny_pyNext_zip_end (I.ok.hd hc) D h1 h2 h3 h4 h5 p1.isList p2.isList ?_ λh' z7=>⟨rfl,?_⟩
  ·rcases hl with hl|hl
   ·left;simp;omega
   ·right;simp;omega
  ·have kp:∀c o,c∉[z,TI,TO,i1,i2]->s.heap.get? c=some o->h'.get? c=some o:=λc o hn e=>by
    simp only[wP,wt,or_false,not_or]at hn;exact z7 c o hn.1 hn.2.2.1 hn.2.2.2.1 hn.2.2.2.2 e
   refine I.step (g':=s.gens) (d':=s.drawn) (t':=s.toks) (ch:=[z,TI,TO,i1,i2]) (λb hb=>⟨(hf b hb).2.2.2.1,(hf b hb).2.1,(hf b hb).2.2.2.2.1,(hf b hb).2.2.2.2.2⟩) (λb o _ _ hc e _=>kp b o hc e) (λb o _ _ hc e _=>⟨o.slots,kp b o hc e⟩)
    (λb o _ e n=>n) (λb o hc e=>⟨o,kp b o hc e⟩) (λb ys e=>e) (λb o u e=>e) (λb ps e=>⟨#[],by rw[e];simp⟩) (λm hm=>?_) (λb u e=>?_) I.bare
   ·obtain⟨o,es,ep,ho,r⟩:=hm;exact⟨o,es,ep,kp _ o (λz=>(hf _ z).2.1 rfl) ho,r⟩
   ·have nc:∀c u,H c=some u->c∉[z,TI,TO,i1,i2]:=λc u q z=>by rw[(hf c z).1]at q;cases q
    refine(I.hok b u e).stay (λc v hc q=>kp c v ?_ q) (λc q=>q) λc ys q=>q;rcases hc with z|z
    ·rw[z];exact nc b u e
    ·exact nc c _ z
 self:=λ_ _ _ _ _ st h=>wpAny_pyIter_zip st.1 h
noncomputable def qF6(K:PySem.W.Frag)(ta:TA):_L.TI:=λσ H R=>ta σ H λvs H1=>∃a b,vs=[.ref a,.ref b]/\(∃xs,SqL K H1 a xs)/\(∃ys,SqL K H1 b ys)/\R (Itz K a b) H1
theorem qCO{X:Cx}{ea eb:Expr}{ta:TA}{p pos tpos:Pos}{elts:List Expr}{kk:Nat}(hg:_L.Gl X "zip")(hm:X.mg "zip"=none)(ha:PA X [ea,eb] ta)(h1:qS ea=true)(h2:qS eb=true):
  _L._P X (.Tuple elts kk tpos) (.Call (.Name "zip" p) [ea,eb] [] pos) (qF6 X.K ta):=by
 intro pins s σ H R I h;refine Call_ (_L.ld_blt I hg hm PyProof.Rows.boot_zip (PyProof.Rows.callWith_type1 (_L.thn (ha pos pins s σ H _ I h) λus s1 ⟨vs,H1,I1,r1,q1⟩=>?_) (qA h1) (jd (by simp[h2]))));obtain⟨a,b,e,⟨xs,hq1⟩,⟨ys,hq2⟩,q⟩:=q1;subst e;cases r1 with
 |cons r rr=>
  cases rr with
  |cons r' rr=>
   cases rr;cases r;cases r';obtain⟨its1,rv1,p1,_⟩:=I1.list hq1;obtain⟨its2,rv2,p2,_⟩:=I1.list hq2;have a1:a<s1.heap.objs.size:=by obtain⟨_,e,_⟩:=p1.isList;exact Heap.lt_size e
   have a2:b<s1.heap.objs.size:=by obtain⟨_,e,_⟩:=p2.isList;exact Heap.lt_size e
   refine call_zip_2 p1.isList p2.isList λh' hz hTI hTO hi1 hi2 _ hk=>?_;refine wpAny_pyIter_zip hz ?_;have I2:Inv X pins σ H1 { s1 with heap:=h' }:=I1.kept (t':=s1.toks) hk;refine⟨_,_,_,_,H1,rfl,I2,y4 _ _ _ _ _ a b (zipApart_new a1 a2),⟨hz,hTI,⟨_,_,hTO⟩,hi1,hi2⟩,λc hc=>?_,q⟩;have hge:s1.heap.objs.size<=c:=by
    simp only[wP,wt,or_false]at hc;rcases hc with rfl|rfl|rfl|rfl|rfl
    ·exact vt _ 4
    ·exact vt _ 2
    ·exact vt _ 3
    ·exact wF _
    ·exact vt _ 1
   exact I1.fpOk hge (I1.hok.fresh hge)
abbrev Tu(h:Heap)(T:Addr)(vs:Array Value):Prop:=h.get? T=some { cls:=.type "tuple",data:=.seq vs }
section
variable{P:Program}{w:World}{A:Around}{E:Value->Shared->Prop}{s:Shared}{z ti to i1 i2 i3 a b c:Addr}{f0:Value}{k1 k2 k3:Nat}{xs ys us:Array Value}{p q r:Value}
def Kp(z to i1 i2 i3:Addr)(h g:Heap):Prop:=g.objs.size=h.objs.size/\∀c o,c∉[z,to,i1,i2,i3]->h.get? c=some o->g.get? c=some o
theorem Kp.step{h g g':Heap}{d:Addr}(k:Kp z to i1 i2 i3 h g)(hd:d∈[z,to,i1,i2,i3])(e:Heap.SameBut d g g'):Kp z to i1 i2 i3 h g':=
 ⟨by rw[e.1,k.1],λc o hc ho=>e.extBut c o (λx=>hc (x ▸ hd)) (k.2 c o hc ho)⟩
end
open _L (PGs TG TGs Itl Itt Q4)
section
variable (K:PySem.W.Frag)(G:List Addr)
noncomputable def tG(g:Tg):TG:=λv σc H Q=>∃φ h σ w σ',Rl K G φ h H/\rst φ σ σc/\rv φ w v/\store g w σ h=some σ'/\∀σc',rst φ σ' σc'->Q σc' H
noncomputable def tGs(is:List Nat):TGs:=λvs σc H Q=>∃φ σ ws σ',rst φ σ σc/\rvs φ ws vs/\Zk is ws σ=some σ'/\∀σc',rst φ σ' σc'->Q σc' H
end
section
variable{X:Cx}{G:List Addr}{F:Nat->List V->AH->RV}
theorem qDZ{e:Expr}{t t':TG}(h:PG X e t)(w:∀v σ H Q,t' v σ H Q->t v σ H Q):PG X e t':=λpins s σ H v u Q I r q=>h pins s σ H v u Q I r (w v σ H Q q)
theorem qAc{e:List Expr}{t t':TGs}(h:PGs X e t)(w:∀v σ H Q,t' v σ H Q->t v σ H Q):PGs X e t':=λpins s σ H v u Q I r q=>h pins s σ H v u Q I r (w v σ H Q q)
variable (X G) in
abbrev SG(e:Expr)(g:Tg):Prop:=PG X e (tG X.K G g)
theorem Z2{i:Nat}{x:Str}{pos:Pos}(hN:X.N.Nodup)(hi:X.N[i]?=some x)(hx:_L.Loc X.env.scope x)(hf:X.fn x=true\/X.env.scope.names.lookup x=some .local):SG X G (.Name x pos) (.name i):=by
 refine qDZ (_L.pg_name hN hi hx hf) λv σc H Q q=>?_;obtain⟨φ,h,σ,w,σ',R,rs,r,e,k⟩:=q;unfold store at e;cases e;exact k _ (zM (R:=ropt φ) (show ropt φ (some w) (some v) from⟨v,rfl,r⟩) i rs)
theorem qB0:PGs X [] (tGs []):=by
 refine qAc _L.pgs_nil λvs σc H Q q=>?_;obtain⟨φ,σ,ws,σ',rs,r,e,k⟩:=q;cases ws with
 |nil=>
  cases r;cases e;exact⟨rfl,k _ rs⟩
 |cons _ _=>cases e
theorem u9{i:Nat}{is:List Nat}{x:Str}{pos:Pos}{es:List Expr}(hN:X.N.Nodup)(hi:X.N[i]?=some x)(hx:_L.Loc X.env.scope x)(hf:X.fn x=true\/X.env.scope.names.lookup x=some .local)(hs:PGs X es (tGs is)):
  PGs X (.Name x pos::es) (tGs (i::is)):=by
 refine qAc (_L.pgs_cons (_L.pg_name hN hi hx hf) hs rfl) λvs σc H Q q=>?_;obtain⟨φ,σ,ws,σ',rs,r,e,k⟩:=q;cases ws with
 |nil=>cases e
 |cons w ws=>
  cases r with
  |cons r1 rr=>exact⟨_,_,rfl,φ,_,ws,σ',zM (R:=ropt φ) (show ropt φ (some w) (some _) from⟨_,rfl,r1⟩) i rs,rr,e,k⟩
theorem Zh:∀{is:List Nat}{xs:List V}{σ σ':St},Zk is xs σ=some σ'->xs.length=is.length
 | [],[],_,_,_=>rfl
 | [],_::_,_,_,e=>by cases e
 |_::_,[],_,_,e=>by cases e
 |i::is,x::xs,σ,σ',e=>by
  have:=Zh (show Zk is xs _=some σ' from e);simp[this]
theorem qDM{is:List Nat}{es:List Expr}{k:Nat}{pos:Pos}(hc:X.calm=true)(h:PGs X es (tGs is))(hn:(assignEach es X.env).length=is.length)(hst:(assignEach es X.env).findIdx? (·.1)=none):SG X G (.Tuple es k pos) (.tup is):=by
 refine qDZ (_L.pg_tup hc h hn hst) λv σc H Q q=>?_;obtain⟨φ,h,σ,w,σ',R,rs,r,e,k⟩:=q;cases w with
 |ref a=>
  unfold store at e;dsimp only at e;split at e
  ·rename_i xs ex;obtain⟨p,zs,hp,hs,rz⟩:=R.tup ex;obtain⟨q,rfl,hq⟩:=qI r;rw[hp]at hq;cases hq;exact⟨_,zs,rfl,hs,by rw[<-Paired.length rz];exact Zh e,φ,σ,xs,σ',rs,rz,e,k⟩
  ·cases e
 |_=>cases e
def IsJ(K:PySem.W.Frag)(φ:List Addr):Src->It->Prop
 | .list p,J=>∃a,φ[p]?=some a/\J=Itl K a
 | .tupl p,J=>∃a,φ[p]?=some a/\J=Itt K a
 | .rng lo n,J=>J=_L.Itr lo n
 | .zip p q,J=>∃a b,φ[p]?=some a/\φ[q]?=some b/\J=Itz K a b
theorem IsJ.mono{K:PySem.W.Frag}{φ φ':List Addr}(x:Ext φ φ'):∀{s:Src}{J:It},IsJ K φ s J->IsJ K φ' s J
 | .list _,_,⟨a,h,e⟩=>⟨a,x.get h,e⟩
 | .tupl _,_,⟨a,h,e⟩=>⟨a,x.get h,e⟩
 | .rng _ _,_,e=>e
 | .zip _ _,_,⟨a,b,h,g,e⟩=>⟨a,b,x.get h,x.get g,e⟩
section
variable{K:PySem.W.Frag}{φ:List Addr}{h h1:AH}{H H':Hp}{s:Src}{J:It}{i:Nat}{x v:V}
theorem IsJ.stop(j:IsJ K φ s J)(R:Rl K G φ h H)(e:jT h i s=true):J.stop i H:=by
 cases s with
 |list p=>
  obtain⟨a,ha,rfl⟩:=j;unfold jT at e;dsimp only at e;split at e
  ·rename_i xs ex;obtain⟨q,zs,hq,hs,rz⟩:=R.lst ex;rw[ha]at hq;cases hq;exact⟨zs,hs,by rw[<-Paired.length rz];exact uI e⟩
  ·cases e
 |tupl p=>
  obtain⟨a,ha,rfl⟩:=j;unfold jT at e;dsimp only at e;split at e
  ·rename_i xs ex;obtain⟨q,zs,hq,hs,rz⟩:=R.tup ex;rw[ha]at hq;cases hq;exact⟨zs,hs,by rw[<-Paired.length rz];exact uI e⟩
  ·cases e
 |rng lo n=>
  cases j;show n<=i;exact uI e
 |zip p q=>
  obtain⟨a,b,ha,hb,rfl⟩:=j;unfold jT at e;dsimp only at e;split at e
  ·rename_i xs ys ex ey;obtain⟨a',zs,hq,hs,rz⟩:=R.lst ex;obtain⟨b',ws,hq',hs',rz'⟩:=R.lst ey;rw[ha]at hq;cases hq;rw[hb]at hq';cases hq';exact⟨zs,ws,hs,hs',by rw[<-Paired.length rz,<-Paired.length rz'];exact uI e⟩
  ·cases e
theorem IsJ.go(j:IsJ K φ s J)(R:Rl K G φ h H)(e:qj h i s=some (x,h1)):J.go i H:=by
 cases s with
 |list p=>
  obtain⟨a,ha,rfl⟩:=j;unfold qj at e;dsimp only at e;split at e
  ·rename_i xs ex;obtain⟨y,ey,e2⟩:=wA.mp e;obtain⟨q,zs,hq,hs,rz⟩:=R.lst ex;rw[ha]at hq;cases hq;obtain⟨z,hz,_⟩:=qK rz ey;exact⟨zs,z,hs,hz⟩
  ·cases e
 |tupl p=>
  obtain⟨a,ha,rfl⟩:=j;unfold qj at e;dsimp only at e;split at e
  ·rename_i xs ex;obtain⟨y,ey,e2⟩:=wA.mp e;obtain⟨q,zs,hq,hs,rz⟩:=R.tup ex;rw[ha]at hq;cases hq;obtain⟨z,hz,_⟩:=qK rz ey;exact⟨zs,z,hs,hz⟩
  ·cases e
 |rng lo n=>
  cases j;unfold qj at e;dsimp only at e;split at e
  ·rename_i hl;exact hl
  ·cases e
 |zip p q=>
  obtain⟨a,b,ha,hb,rfl⟩:=j;unfold qj at e;dsimp only at e;split at e
  ·rename_i xs ys ex ey;split at e
   ·rename_i u w eu ew;obtain⟨a',zs,hq,hs,rz⟩:=R.lst ex;obtain⟨b',ws,hq',hs',rz'⟩:=R.lst ey;rw[ha]at hq;cases hq;rw[hb]at hq';cases hq';obtain⟨z,hz,_⟩:=qK rz eu;obtain⟨z',hz',_⟩:=qK rz' ew;exact⟨zs,ws,z,z',hs,hs',hz,hz'⟩
   ·cases e
  ·cases e
theorem IsJ.yld(j:IsJ K φ s J)(R:Rl K G φ h H)(e:qj h i s=some (x,h1))(y:J.yld i H v H'):∃φ',Ext φ φ'/\Rl K G φ' h1 H'/\rv φ' x v:=by
 cases s with
 |list p=>
  obtain⟨a,ha,rfl⟩:=j;unfold qj at e;dsimp only at e;split at e
  ·rename_i xs ex;obtain⟨y',ey,e2⟩:=wA.mp e;cases e2;obtain⟨q,zs,hq,hs,rz⟩:=R.lst ex;rw[ha]at hq;cases hq;obtain⟨z,hz,rz'⟩:=qK rz ey;obtain⟨rfl,k⟩:=y;have:=k zs hs;rw[hz]at this;cases this;exact⟨φ,.refl _,R,rz'⟩
  ·cases e
 |tupl p=>
  obtain⟨a,ha,rfl⟩:=j;unfold qj at e;dsimp only at e;split at e
  ·rename_i xs ex;obtain⟨y',ey,e2⟩:=wA.mp e;cases e2;obtain⟨q,zs,hq,hs,rz⟩:=R.tup ex;rw[ha]at hq;cases hq;obtain⟨z,hz,rz'⟩:=qK rz ey;obtain⟨rfl,k⟩:=y;have:=k zs hs;rw[hz]at this;cases this;exact⟨φ,.refl _,R,rz'⟩
  ·cases e
 |rng lo n=>
  cases j;unfold qj at e;dsimp only at e;split at e
  ·cases e;obtain⟨rfl,rfl⟩:=y;exact⟨φ,.refl _,R,rfl⟩
  ·cases e
 |zip p q=>
  obtain⟨a,b,ha,hb,rfl⟩:=j;unfold qj at e;dsimp only at e;split at e
  ·rename_i xs ys ex ey;split at e
   ·rename_i u w eu ew;cases e;obtain⟨a',zs,hq,hs,rz⟩:=R.lst ex;obtain⟨b',ws,hq',hs',rz'⟩:=R.lst ey;rw[ha]at hq;cases hq;rw[hb]at hq';cases hq';obtain⟨z,hz,r1⟩:=qK rz eu;obtain⟨z',hz',r2⟩:=qK rz' ew;obtain⟨p',x',y',hn,rfl,rfl,k1,k2⟩:=y;have t1:=k1 zs hs;have t2:=k2 ws hs';rw[hz]at t1;cases t1;rw[hz']at t2;cases t2;exact⟨φ++[p'],⟨[p'],rfl⟩,R.newT hn (.cons r1 (.cons r2 .nil)),R.lastRef⟩
   ·cases e
  ·cases e
end
variable (G F) in
noncomputable def tI(K:PySem.W.Frag)(it:Itr):_L.TI:=λσc H R=>∃φ h σ s h',Rl K G φ h H/\rst φ σ σc/\evi F it σ h=.ok (s,h')/\∀φ' H' J,Ext φ φ'->Rl K G φ' h' H'->IsJ K φ' s J->R J H'
variable (X G F) in
abbrev SI(tg iter:Expr)(it:Itr):Prop:=_L._P X tg iter (tI G F X.K it)
theorem qAA{tg e:Expr}{t t':_L.TI}(h:_L._P X tg e t)(w:∀σ H Q,t' σ H Q->t σ H Q):_L._P X tg e t':=λpins s σ H Q I q=>h pins s σ H Q I (w σ H Q q)
variable{a b:E}{ea eb tg:Expr}{pos p:Pos}
noncomputable def qF0(K:PySem.W.Frag)(tl:TE):_L.TI:=λσ H R=>tl σ H λx H1=>∃a,x=.ref a/\(((∃xs,SqL K H1 a xs)/\R (Itl K a) H1)\/((∃xs,SqT K H1 a xs)/\R (Itt K a) H1))
theorem qCo{l:Expr}{tl:TE}(hl:PE X l tl):_L._P X tg l (qF0 X.K tl):=by
 intro pins s σ H R I h;refine _L.thn (hl pins s σ H _ I h) λv s1 ⟨x,H1,I1,r1,q1⟩=>?_;obtain⟨a,e,q⟩:=q1;subst e;cases r1;rcases q with⟨⟨xs,hq⟩,q⟩|⟨⟨xs,hq⟩,q⟩
 ·obtain⟨its,rv,p,hz⟩:=I1.list hq;refine wpAny_pyIter_list p.isList ?_;refine⟨s1.heap.objs.size,[s1.heap.objs.size],_,_,H1,rfl,I1.kept (t':=s1.toks) λb o e=>Heap.get?_push_of_some _ e,_L.turn_list a _,⟨_,Heap.get?_push_size _ rfl,rfl,rfl⟩,λb hb=>?_,q⟩;have e:b=s1.heap.objs.size:=by simpa using hb
  subst e;exact I1.fpOk (wF _) (I1.hok.fresh (wF _))
 ·obtain⟨its,rv,p,hz⟩:=I1.tuple hq;refine wpAny_pyIter_tuple (show s1.heap.IsTuple a its.toArray from p) ?_;refine⟨s1.heap.objs.size,[s1.heap.objs.size],_,_,H1,rfl,I1.kept (t':=s1.toks) λb o e=>Heap.get?_push_of_some _ e,_L.turn_tuple a _,⟨_,Heap.get?_push_size _ rfl,rfl,rfl⟩,λb hb=>?_,q⟩;have e:b=s1.heap.objs.size:=by simpa using hb
  subst e;exact I1.fpOk (wF _) (I1.hok.fresh (wF _))
theorem a0(ha:SE X G F ea a):SI X G F tg ea (.list a):=by
 refine qAA (qCo ha) λσc H Q q=>?_;obtain⟨φ,h,σ,s,h',R,rs,e,k⟩:=q;unfold evi at e;obtain⟨⟨x,h1⟩,e1,e⟩:=tK e;refine⟨φ,h,σ,x,h1,R,rs,e1,λφ1 H1 w x1 R1 r1=>?_⟩;cases x with
 |ref p=>
  dsimp only at e;cases ey:h1[p]? with
  |none=>rw[ey]at e;cases e
  |some o=>
   cases o with
   |lst fz ys=>
    rw[ey]at e;cases e;obtain⟨q,zs,hq,hs,rz⟩:=R1.lst (i:=p) (xs:=ys) (by unfold qL;rw[ey]);obtain⟨q',rfl,hq'⟩:=qI r1;rw[hq]at hq';cases hq';exact⟨_,rfl,.inl ⟨⟨zs,hs⟩,k φ1 H1 _ x1 R1 ⟨_,hq,rfl⟩⟩⟩
   |tup ys=>
    rw[ey]at e;cases e;obtain⟨q,zs,hq,hs,rz⟩:=R1.tup (i:=p) (xs:=ys) (by unfold qT;rw[ey]);obtain⟨q',rfl,hq'⟩:=qI r1;rw[hq]at hq';cases hq';exact⟨_,rfl,.inr ⟨⟨zs,hs⟩,k φ1 H1 _ x1 R1 ⟨_,hq,rfl⟩⟩⟩
   |ob ks=>rw[ey]at e;cases e
 |_=>cases e
theorem qBa(hg:_L.Gl X "range")(hm:X.mg "range"=none)(hn:qS ea=true)(ha:SE X G F ea a):SI X G F tg (.Call (.Name "range" p) [ea] [] pos) (.rng1 a):=by
 refine qAA (_L.pi_range1 hg hm (_L.pa_cons ha _L.pa_nil (qA hn)) (qA hn)) λσc H Q q=>?_;obtain⟨φ,h,σ,s,h',R,rs,e,k⟩:=q;unfold evi at e;obtain⟨⟨x,h1⟩,e1,e⟩:=tK e;refine⟨φ,h,σ,x,h1,R,rs,e1,λφ1 H1 w x1 R1 r1=>?_⟩;cases x with
 |int j=>
  dsimp only at e;split at e
  ·rename_i hj;cases e;cases qB r1;exact⟨j,rfl,by omega,by omega,k φ1 H1 _ x1 R1 rfl⟩
  ·cases e
 |_=>cases e
theorem qBO(hg:_L.Gl X "range")(hm:X.mg "range"=none)(hn:qS ea=true)(hn2:qS eb=true)(ha:SE X G F ea a)(hb:SE X G F eb b):SI X G F tg (.Call (.Name "range" p) [ea,eb] [] pos) (.rng2 a b):=by
 refine qAA (_L.pi_range2 hg hm (_L.pa_cons ha (_L.pa_cons hb _L.pa_nil (qA hn2)) (qA hn)) (by rw[qA hn,qA hn2];rfl) (qA hn2)) λσc H Q q=>?_;obtain⟨φ,h,σ,s,h',R,rs,e,k⟩:=q;unfold evi at e;obtain⟨⟨x,h1⟩,e1,e⟩:=tK e;obtain⟨⟨y,h2⟩,e2,e⟩:=tK e;refine jc R rs e1 e2 λφ2 H2 xc yc x2 R2 r1 r2=>?_;cases x with
 |int i=>
  cases y with
  |int j=>
   dsimp only at e;split at e
   ·rename_i hj;cases e;cases qB r1;cases qB r2;exact⟨i,j,rfl,⟨by omega,by omega,by omega,by omega⟩,k φ2 H2 _ x2 R2 rfl⟩
   ·cases e
  |_=>cases e
 |_=>cases e
theorem qC9{elts:List Expr}{kk:Nat}{tpos:Pos}(hg:_L.Gl X "zip")(hm:X.mg "zip"=none)(hn:qS ea=true)(hn2:qS eb=true)(ha:SE X G F ea a)(hb:SE X G F eb b):
  SI X G F (.Tuple elts kk tpos) (.Call (.Name "zip" p) [ea,eb] [] pos) (.zip a b):=by
 refine qAA (qCO hg hm (_L.pa_cons ha (_L.pa_cons hb _L.pa_nil (qA hn2)) (qA hn)) hn hn2) λσc H Q q=>?_;obtain⟨φ,h,σ,s,h',R,rs,e,k⟩:=q;unfold evi at e;obtain⟨⟨x,h1⟩,e1,e⟩:=tK e;obtain⟨⟨y,h2⟩,e2,e⟩:=tK e;refine jc R rs e1 e2 λφ2 H2 xc yc x2 R2 r1 r2=>?_;cases x with
 |ref i=>
  cases y with
  |ref j=>
   dsimp only at e;split at e
   ·rename_i xs ys ex ey;cases e;obtain⟨a',zs,hq,hs,rz⟩:=R2.lst ex;obtain⟨b',ws,hq',hs',rz'⟩:=R2.lst ey;obtain⟨a2,rfl,ha2⟩:=qI r1;obtain⟨b2,rfl,hb2⟩:=qI r2;rw[hq]at ha2;cases ha2;rw[hq']at hb2;cases hb2;exact⟨_,_,rfl,⟨zs,hs⟩,⟨ws,hs'⟩,k φ2 H2 _ x2 R2 ⟨_,_,hq,hq',rfl⟩⟩
   ·cases e
  |_=>cases e
 |_=>cases e
end
section
variable{X:Cx}{G:List Addr}{F:Nat->List V->AH->RV}
theorem qDw{φ:List Addr}:∀{v w w':V},rv φ v w->rv φ v w'->w=w'
 | .ref _,w,w',h,g=>by
  obtain⟨a,e1,h1⟩:=qI h;obtain⟨b,e2,g1⟩:=qI g;rw[h1]at g1;cases g1;rw[e1,e2]
 | .non,_,_,h,g=>by rw[ql h,ql g]
 | .bl _,_,_,h,g=>by rw[qx h,qx g]
 | .int _,_,_,h,g=>by rw[qB h,qB g]
 | .str _,_,_,h,g=>by rw[zF h,zF g]
 | .byt _,w,_,h,_=>by cases w<;>exact False.elim h
 | .flt _,w,_,h,_=>by cases w<;>exact False.elim h
 | .ty _,w,_,h,_=>by cases w<;>exact False.elim h
theorem E5{φ:List Addr}:∀{vs ws us:List V},rvs φ vs ws->rvs φ vs us->ws=us
 |_,_,_,.nil,.nil=>rfl
 |_,_,_,.cons r t,.cons r' t'=>by rw[qDw r r',E5 t t']
theorem Qz{φ:List Addr}{σ σc:St}(r:rst φ σ σc):∀src,rst φ (_L.inner src σ) (_L.inner src σc)
 | []=>.nil
 |none::src=>.cons trivial (Qz r src)
 |some j::src=>by
  refine .cons ?_ (Qz r src);show ropt φ (σ[j]?).join (σc[j]?).join;cases e:σ[j]? with
  |none=>exact trivial
  |some o=>
   cases o with
   |none=>exact trivial
   |some v=>
    obtain⟨oc,ec,r'⟩:=qK r e;obtain⟨w,rfl,r'⟩:=r';rw[ec];exact⟨w,rfl,r'⟩
variable (X G F) in
abbrev SC(ifs:List Expr)(c:Es):Prop:=_L.PTs X ifs (tB X.K G (evc F c))
theorem qC4:SC X G F [] .nil:=by
 intro pins s σ H Q I q;obtain⟨φ,h,σa,b,h',R,rs,e,k⟩:=q;unfold evc at e;cases e;exact _L.pts_nil pins s σ H Q I (k φ H (.refl _) R)
theorem qDO{c:Expr}{a:E}(hc:ST X G F c a):SC X G F [c] (.cons a .nil):=by
 intro pins s σ H Q I q;obtain⟨φ,h,σa,b,h',R,rs,e,k⟩:=q;unfold evc at e;exact _L.pts_one hc pins s σ H Q I ⟨φ,h,σa,b,h',R,rs,e,k⟩
theorem X4{it:Itr}{src:List (Option Nat)}{g:Tg}{c:Es}{e:E}{σc:St}{H:Hp}{Q:VK}(q:tE X.K G F (.comp it src g c e) σc H Q):
  _L.tComp (tI G F X.K it) src (tG X.K G g) (tB X.K G (evc F c)) (tE X.K G F e) σc H Q:=by
 obtain⟨φ,h,σ,v,h',R,rs,ee,k⟩:=q;unfold ev at ee;obtain⟨⟨s,h1⟩,e1,ee⟩:=tK ee;refine⟨φ,h,σ,s,h1,R,rs,e1,λφ1 H1 J x1 R1 j1=>?_⟩;dsimp only at ee;split at ee
 ·rename_i n hn;intro D hD;have R2:Rl X.K G (φ1++[D]) (h1++[.lst false []]) (upd H1 D (.lst [])):=R1.newL hD .nil;have hDφ:(φ1++[D])[h1.length]?=some D:=R1.lastRef;refine⟨λi m ys σ' H'=>∃φ' h2 σa ya,Ext (φ1++[D]) φ'/\Rl X.K G φ' h2 H'/\rst φ' σa σ'/\rvs φ' ya ys/\h2[h1.length]?=some (.lst false ya)/\B5 s g (evc F c) (ev F e) h1.length m i ya σa h2=.ok (v,h'),
   ⟨n,φ1++[D],_,_,[],.refl _,R2,Qz (rst.mono (x1.trans ⟨[D],rfl⟩) rs) src,.nil,by simp,ee⟩,?_⟩
  rintro i m ys σ' H' ⟨φ',h2,σa,ya,x2,Ra,rsa,rya,hya,ec⟩ hys;have jj:IsJ X.K φ' s J:=j1.mono (Ext.trans ⟨[D],rfl⟩ x2);have hDφ':=x2.get hDφ;cases m with
  |zero=>
   unfold B5 at ec;split at ec
   ·rename_i hst;cases ec;exact .inl ⟨jj.stop Ra hst,k φ' H' _ ((x1.trans ⟨[D],rfl⟩).trans x2) Ra hDφ'⟩
   ·cases ec
  |succ m=>
   unfold B5 at ec;split at ec
   ·rename_i x h3 hy;split at ec
    ·rename_i σ3 hst;refine .inr ⟨jj.go Ra hy,λxv H2 hyl=>?_⟩;obtain⟨φ3,x3,R3,rx⟩:=jj.yld Ra hy hyl;refine⟨φ3,h3,σa,x,σ3,R3,rst.mono x3 rsa,rx,hst,λσc3 rs3=>?_⟩;obtain⟨⟨t,h4⟩,e4,ec⟩:=tK ec;refine⟨φ3,h3,σ3,t,h4,R3,rs3,e4,λφ4 H4 x4 R4=>?_⟩;dsimp only at ec;cases t with
     |true=>
      rw[if_pos rfl]at ec ⊢;obtain⟨⟨y,h5⟩,e5,ec⟩:=tK ec;refine⟨φ4,h4,σ3,y,h5,R4,rst.mono x4 rs3,e5,λφ5 H5 yc x5 R5 r5=>?_⟩;dsimp only at ec;split at ec
      ·rename_i hc5;have xx:Ext φ' φ5:=x3.trans (x4.trans x5);have hD5:=xx.get hDφ';obtain⟨zs,hz,rz⟩:=R5.obj _ _ D hc5.1 hD5;have ez:zs=ys:=E5 rz (rvs.mono xx rya);subst ez;refine⟨hz,by rw[<-Paired.length rz];exact wx hc5.2 qAF,m,vU _,φ5,_,σ3,_,x2.trans xx,R5.set hc5.1 hD5 (qN rz (.cons r5 .nil)),rst.mono (x4.trans x5) rs3,qN rz (.cons r5 .nil),?_,ec⟩;rw[wZ (wB.mp hc5.1).1]
      ·cases ec
     |false=>
      rw[if_neg (by decide)]at ec ⊢;split at ec
      ·rename_i hc4;have xx:Ext φ' φ4:=x3.trans x4;have hD4:=xx.get hDφ';obtain⟨zs,hz,rz⟩:=R4.obj _ _ D hc4 hD4;have ez:zs=ys:=E5 rz (rvs.mono xx rya);subst ez;exact⟨hz,m,vU _,φ4,_,σ3,_,x2.trans xx,R4,rst.mono x4 rs3,rz,hc4,ec⟩
      ·cases ec
    ·cases ec
   ·cases ec
 ·cases ee
end
section
variable{X:Cx}{G:List Addr}{F:Nat->List V->AH->RV}{a b c:E}{ea eb ec tg:Expr}{pos:Pos}
theorem c9{iter elt:Expr}{ifs:List Expr}{scope:Scope}{N:List Str}{it:Itr}{src:List (Option Nat)}{g:Tg}{cs:Es}{e:E}(hc:X.calm=true)(hi:SI X G F tg iter it)(S:_L.CompScope X scope N src)
  (hg:∀C fp s H,SG (_L.cxComp X scope C fp s H N) G tg g) (ht:∀C fp s H,SC (_L.cxComp X scope C fp s H N) G F ifs cs) (he:∀C fp s H,SE (_L.cxComp X scope C fp s H N) G F elt e)
  (hs:∀x,foldedSetIterable iter X.env x=pure x):SE X G F (.ListComp elt [⟨tg,iter,ifs,0⟩] scope pos) (.comp it src g cs e):=
 qc (_L.pe_comp hc hi S hg ht he hs) λ_ _ _=>X4
def Post(K:PySem.W.Frag)(G:List Addr)(D:Q4)(φ:List Addr)(o:Out)(h':AH):Prop:=∀φ' H',Ext φ φ'->Rl K G φ' h' H'->match o with
 | .nx σ=>∀σc,rst φ' σ σc->D.nx σc H'
 | .rt v=>∀w,rv φ' v w->D.rt w H'
 | .bk σ=>∀σc,rst φ' σ σc->D.bk σc H'
 | .ct σ=>∀σc,rst φ' σ σc->D.ct σc H'
theorem Post.mono{K:PySem.W.Frag}{D:Q4}{φ φ1:List Addr}{o:Out}{h':AH}(x:Ext φ φ1)(p:Post K G D φ o h'):Post K G D φ1 o h':=λφ' H' x' R=>p φ' H' (x.trans x') R
noncomputable def tS(K:PySem.W.Frag)(G:List Addr)(r:St->AH->RS):TS:=λD σc H=>∃φ h σ o h',Rl K G φ h H/\rst φ σ σc/\r σ h=.ok (o,h')/\Post K G D φ o h'
variable (X G F) in
abbrev SS(st:Stmt)(s:S):Prop:=PS X st (tS X.K G (ex F s))
variable (X G F) in
abbrev SSs(st:List Stmt)(s:Ss):Prop:=PSs X st (tS X.K G (exs F s))
theorem JQ{e:Stmt}{t t':TS}(h:PS X e t)(w:∀D σ H,t' D σ H->t D σ H):PS X e t':=λpins s σ H D I q=>h pins s σ H D I (w D σ H q)
theorem qAS{e:List Stmt}{t t':TS}(h:PSs X e t)(w:∀D σ H,t' D σ H->t D σ H):PSs X e t':=λpins s σ H D I q=>h pins s σ H D I (w D σ H q)
theorem qZ{st:Stmt}:SS X G F st .stop:=by
 intro pins s σ H D I q;obtain⟨φ,h,σa,o,h',R,rs,e,k⟩:=q;unfold ex at e;cases e
noncomputable def ZH:Expr->Bool
 | .ListComp ..=>false
 | .SetComp ..=>false
 | .DictComp ..=>false
 |_=>true
noncomputable def qDG:Expr->Bool
 | .Tuple ..=>false
 |_=>true
theorem Qp{e:Expr}{t:Option Expr}{l:Nat}{env:Env}(h:ZH e=true):swapsWith e t l env=pure false:=by
 cases e<;>first|rfl|cases h
theorem Zi{e t:Expr}{l:Nat}{env:Env}(h:ZH e=true):swapsWithSole [t] e l env=pure false:=Qp h
theorem qBX{K:PySem.W.Frag}{σ:St}{H:Hp}{Q Q':VK}(q:tE K G F a σ H Q)(w:∀v H,Q v H->Q' v H):tE K G F a σ H Q':=by
 obtain⟨φ,h,σa,v,h',R,rs,e,k⟩:=q;exact⟨φ,h,σa,v,h',R,rs,e,λφ' H' u x' R' r'=>w u H' (k φ' H' u x' R' r')⟩
theorem N0{g:Tg}{D:Q4}{σc:St}{H:Hp}(q:tS X.K G (ex F (.asg g a)) D σc H):_L.tAsg (tE X.K G F a) (tG X.K G g) D σc H:=by
 obtain⟨φ,h,σ,o,h',R,rs,e,k⟩:=q;unfold ex at e;obtain⟨⟨x,h1⟩,e1,e⟩:=tK e;dsimp only at e;split at e
 ·rename_i σ1 es;cases e;exact⟨φ,h,σ,x,_,R,rs,e1,λφ1 H1 w x1 R1 r1=>⟨φ1,_,σ,x,σ1,R1,rst.mono x1 rs,r1,es,λσc' rs'=>k φ1 H1 x1 R1 σc' rs'⟩⟩
 ·cases e
theorem qDx{is:List Nat}{es:List Expr}{kk:Nat}{p:Pos}(hg:SG X G (.Tuple es kk p) (.tup is))(ha:SE X G F ea a)(hc:ZH ea=true)(ht:qDG ea=true):
  SS X G F (.Assign [.Tuple es kk p] ea pos) (.asg (.tup is) a):=
 JQ (_L.ps_asg ha hg (Zi hc) (by cases ea<;>first|rfl|cases ht) rfl) λ_ _ _=>N0
theorem qBg{iter elt:Expr}{ifs:List Expr}{scope:Scope}{N:List Str}{it:Itr}{src:List (Option Nat)}{g:Tg}{cs:Es}{e:E}{i:Nat}{n:Str}{p cpos:Pos}(hc:X.calm=true)(hi:SI X G F tg iter it)(S:_L.CompScope X scope N src)
  (hg:∀C fp s H,SG (_L.cxComp X scope C fp s H N) G tg g) (ht:∀C fp s H,SC (_L.cxComp X scope C fp s H N) G F ifs cs) (he:∀C fp s H,SE (_L.cxComp X scope C fp s H N) G F elt e)
  (hs:∀x,foldedSetIterable iter X.env x=pure x) (hN:X.N.Nodup) (hn:X.N[i]?=some n) (hx:_L.Loc X.env.scope n) (hf:X.fn n=true\/X.env.scope.names.lookup n=some .local):
  SS X G F (.Assign [.Name n p] (.ListComp elt [⟨tg,iter,ifs,0⟩] scope cpos) pos) (.asg (.name i) (.comp it src g cs e)):=by
 have hsw:swapsWith (.ListComp elt [⟨tg,iter,ifs,0⟩] scope cpos) (some (.Name n p)) pos.line X.env=pure (X.env.blockKind==.function&&X.env.kindOf n==some .local&&p.line==(Expr.ListComp elt [⟨tg,iter,ifs,0⟩] scope cpos).pos.line
   && !(scope.names.any λ(m,k)=>m==n&&(k==.local||k==.cell))):=rfl
 generalize hb:(X.env.blockKind==.function&&X.env.kindOf n==some .local&&p.line==(Expr.ListComp elt [⟨tg,iter,ifs,0⟩] scope cpos).pos.line
   && !(scope.names.any λ(m,k)=>m==n&&(k==.local||k==.cell)))=bb at hsw
 cases bb with
 |true=>
  have hl:X.env.scope.names.lookup n=some .local:=by
   simp only[wE]at hb;have z:X.env.kindOf n=some .local:=by simpa using hb.1.1.2
   exact z
  refine JQ (_L.ps_setcomp (i:=i) (g:=tG X.K G g) (tc:=tB X.K G (evc F cs)) (te:=tE X.K G F e) hc hi S hg ht he hsw hN hn hl hs) λD σc H q=>?_;refine X4 (qBX (N0 q) λv H1 z=>?_);obtain⟨φ,h,σ,w,σ',R,rs,r,es,k⟩:=z;unfold store at es;cases es;exact k _ (zM (R:=ropt φ) (show ropt φ (some w) (some v) from⟨v,rfl,r⟩) i rs)
 |false=>exact JQ (_L.ps_asg (c9 hc hi S hg ht he hs) (Z2 hN hn hx hf) hsw rfl rfl) λ_ _ _=>N0
noncomputable def qEX:_L.TSet:=λo i v H Q=>_L.rSetL o i v H Q\/∃p H',o=.ref p/\_L.DPut H p i v H'/\Q H'
theorem qBt(hu:X.A.units+8<cLine):_L.PSet X qEX:=by
 intro pins s σ H o i v ov iv u Q I ro ri rv h;rcases h with h|⟨p,H',rfl,g,q⟩
 ·exact _L.set_list pins s σ H o i v ov iv u Q I ro ri rv h
 ·cases ro;exact _L.d_setItem (by omega) I g ri rv λs' I'=>⟨H',I',q⟩
theorem qDf(hu:X.A.units+8<cLine){eo ei:Expr}{o i:E}{p:Pos}(ho:SE X G F eo o)(hi:SE X G F ei i)(ha:SE X G F ea a)(hsl:jw ei=true):SS X G F (.Assign [.Subscript eo ei p] ea pos) (.put o i a):=by
 refine JQ (_L.ps_asg ha (_L.pg_sub ho hi (qBt hu) (λv=>by cases ei<;>first|rfl|cases hsl)) (by cases ea<;>rfl) (by cases ea<;>rfl) rfl) λD σc H q=>?_;obtain⟨φ,h,σ,out,h',R,rs,e,k⟩:=q;unfold ex at e;obtain⟨⟨x,h1⟩,e1,e⟩:=tK e;obtain⟨⟨p1,h2⟩,e2,e⟩:=tK e;obtain⟨⟨k1,h3⟩,e3,e⟩:=tK e;refine⟨φ,h,σ,x,h1,R,rs,e1,λφ1 H1 w x1 R1 r1=>?_⟩;refine⟨φ1,h1,σ,p1,h2,R1,rst.mono x1 rs,e2,λφ2 H2 w2 x2 R2 r2=>?_⟩;refine⟨φ2,h2,σ,k1,h3,R2,rst.mono (x1.trans x2) rs,e3,λφ3 H3 w3 x3 R3 r3=>?_⟩;cases p1 with
 |ref q=>
  cases k1 with
  |int j=>
   dsimp only at e;split at e
   ·rename_i xs ex1;split at e
    ·rename_i jj ej;cases e;obtain⟨q1,a',zs,ha',hH,rz⟩:=R3.mut ex1;obtain⟨a2,rfl,ha2⟩:=qI (rv.mono x3 r2);rw[ha']at ha2;cases ha2;cases qB r3;refine .inl ⟨_,zs,j,jj,rfl,rfl,hH,by rw[<-Paired.length rz];exact ej,?_⟩;have xx:Ext φ φ3:=x1.trans (x2.trans x3);exact k φ3 _ xx (R3.set q1 ha' (zM (rv.mono (x2.trans x3) r1) jj rz)) σc (rst.mono xx rs)
    ·cases e
   ·split at e
    ·rename_i kvs ed;split at e
     ·rename_i hf;cases e;obtain⟨a',ks2,ea,eh,hH,rk⟩:=R3.dct ed;obtain⟨a2,rfl,ha2⟩:=qI (rv.mono x3 r2);rw[ea]at ha2;cases ha2;cases qB r3;have hl:(ks2.map kk).length<sizeLine:=by rw[wO,rk.len];exact wG hf Qh
      have xx:Ext φ φ3:=x1.trans (x2.trans x3);refine .inr ⟨_,_,rfl,_L.DPut.k (k:=.inl j) hH hl,?_⟩;rw[qBr];exact k φ3 _ xx (R3.write rfl rfl eh ea ⟨_,qD,rk.put (rv.mono (x2.trans x3) r1)⟩) σc (rst.mono xx rs)
     ·cases e
    ·cases e
  |_=>cases e
 |_=>cases e
theorem qBn(ha:SE X G F ea a)(hc:ZH ea=true):SS X G F (.Expr ea pos) (.expr a):=by
 refine JQ (_L.ps_expr ha (Qp hc)) λD σc H q=>?_;obtain⟨φ,h,σ,out,h',R,rs,e,k⟩:=q;unfold ex at e;obtain⟨⟨x,h1⟩,e1,e⟩:=tK e;cases e;exact⟨φ,h,σ,x,_,R,rs,e1,λφ1 H1 w x1 R1 r1=>k φ1 H1 x1 R1 σc (rst.mono x1 rs)⟩
theorem qDu(ha:SE X G F ea a):SS X G F (.Return (some ea) pos) (.ret a):=by
 refine JQ (_L.ps_ret ha) λD σc H q=>?_;obtain⟨φ,h,σ,out,h',R,rs,e,k⟩:=q;unfold ex at e;obtain⟨⟨x,h1⟩,e1,e⟩:=tK e;cases e;exact⟨φ,h,σ,x,_,R,rs,e1,λφ1 H1 w x1 R1 r1=>k φ1 H1 x1 R1 w r1⟩
theorem qAy:SSs X G F [] .nil:=by
 refine qAS _L.pss_nil λD σc H q=>?_;obtain⟨φ,h,σ,out,h',R,rs,e,k⟩:=q;unfold exs at e;cases e;exact k φ H (.refl _) R σc rs
theorem q9{st:Stmt}{sts:List Stmt}{s:S}{ss:Ss}(h1:SS X G F st s)(h2:SSs X G F sts ss):SSs X G F (st::sts) (.cons s ss):=by
 refine qAS (_L.pss_cons h1 h2) λD σc H q=>?_;obtain⟨φ,h,σ,out,h',R,rs,e,k⟩:=q;unfold exs at e;obtain⟨⟨o,h1⟩,e1,e⟩:=tK e;refine⟨φ,h,σ,o,h1,R,rs,e1,λφ1 H1 x1 R1=>?_⟩;cases o with
 |nx σ1=>exact λσc1 rs1=>⟨φ1,h1,σ1,out,h',R1,rs1,e,k.mono x1⟩
 |rt v=>cases e;exact k φ1 H1 x1 R1
 |bk σ1=>cases e;exact k φ1 H1 x1 R1
 |ct σ1=>cases e;exact k φ1 H1 x1 R1
theorem qDU{t u:List Stmt}{st su:Ss}(hc:ST X G F ec c)(ht:SSs X G F t st)(hu:SSs X G F u su):SS X G F (.If ec t u pos) (.ifs c st su):=by
 refine JQ (_L.ps_if hc ht hu) λD σc H q=>?_;obtain⟨φ,h,σ,out,h',R,rs,e,k⟩:=q;unfold ex at e;obtain⟨⟨x,h1⟩,e1,e⟩:=tK e;refine⟨φ,h,σ,x,h1,R,rs,e1,λφ1 H1 x1 R1=>?_⟩;dsimp only at e;cases x with
 |true=>
  rw[if_pos rfl]at e ⊢;exact⟨φ1,h1,σ,out,h',R1,rst.mono x1 rs,e,k.mono x1⟩
 |false=>
  rw[if_neg (by decide)]at e ⊢;exact⟨φ1,h1,σ,out,h',R1,rst.mono x1 rs,e,k.mono x1⟩
theorem qCF{iter:Expr}{body:List Stmt}{it:Itr}{g:Tg}{sb:Ss}(hx:X.xe=λ_ _=>False)(hc:X.calm=true)(hi:SI X G F tg iter it)(hg:SG X G tg g)(hb:SSs X G F body sb)
  (hs:∀x,foldedSetIterable iter X.env x=pure x):SS X G F (.For tg iter body [] pos) (.for_ g it sb):=by
 refine JQ (_L.ps_for (by rw[hx];exact PassesOwn.never) hc hi hg hb hs) λD σc H q=>?_;obtain⟨φ,h,σ,out,h',R,rs,e,k⟩:=q;unfold ex at e;obtain⟨⟨s,h1⟩,e1,e⟩:=tK e;refine⟨φ,h,σ,s,h1,R,rs,e1,λφ1 H1 J x1 R1 j1=>?_⟩;dsimp only at e;split at e
 ·rename_i n hn;refine⟨λi m σ' H'=>∃φ' h2 σa,Ext φ1 φ'/\Rl X.K G φ' h2 H'/\rst φ' σa σ'/\B7 s g (exs F sb) m i σa h2=.ok (out,h'),⟨n,φ1,h1,σ,.refl _,R1,rst.mono x1 rs,e⟩,?_⟩;rintro i m σ' H' ⟨φ',h2,σa,x2,Ra,rsa,ef⟩;have jj:IsJ X.K φ' s J:=j1.mono x2;cases m with
  |zero=>
   unfold B7 at ef;split at ef
   ·rename_i hst;cases ef;exact .inl ⟨jj.stop Ra hst,k φ' H' (x1.trans x2) Ra σ' rsa⟩
   ·cases ef
  |succ m=>
   unfold B7 at ef;split at ef
   ·rename_i x h3 hy;split at ef
    ·rename_i σ3 hst;refine .inr ⟨jj.go Ra hy,λσ' H'=>∃φ' h2 σa,Ext φ1 φ'/\Rl X.K G φ' h2 H'/\rst φ' σa σ'/\B7 s g (exs F sb) m (i+1) σa h2=.ok (out,h'),λσ2 H2 w=>⟨m,vU _,w⟩,λxv H2 hyl=>?_⟩;obtain⟨φ3,x3,R3,rx⟩:=jj.yld Ra hy hyl;refine⟨φ3,h3,σa,x,σ3,R3,rst.mono x3 rsa,rx,hst,λσc3 rs3=>?_⟩;obtain⟨⟨o,h4⟩,e4,ef⟩:=tK ef;refine⟨φ3,h3,σ3,o,h4,R3,rs3,e4,λφ4 H4 x4 R4=>?_⟩;dsimp only at ef;cases o with
     |nx σ4=>exact λσc4 rs4=>⟨φ4,h4,σ4,x2.trans (x3.trans x4),R4,rs4,ef⟩
     |ct σ4=>exact λσc4 rs4=>⟨φ4,h4,σ4,x2.trans (x3.trans x4),R4,rs4,ef⟩
     |bk σ4=>cases ef;exact k φ4 H4 (x1.trans (x2.trans (x3.trans x4))) R4
     |rt v=>cases ef;exact k φ4 H4 (x1.trans (x2.trans (x3.trans x4))) R4
    ·cases ef
   ·cases ef
 ·cases e
end
set_option genInjectivity false in structure Gam where
 N:List Str
 sc:Scope
 fns:List Str
 gl:List (Str×E)
 bl:List Str
 own:Str->Bool
 cls:List Str:=[]
 xr:Bool:=false
noncomputable def slot(N:List Str)(x:Str):Option Nat:=(List.range N.length).find? λi=>N[i]?==some x
theorem jv{N:List Str}{x:Str}{i:Nat}(h:slot N x=some i):N[i]?=some x:=by
 unfold slot at h;simpa using List.find?_some h
noncomputable def qEW(sc:Scope)(x:Str):Bool:=match sc.names.lookup x with|some .local=>true|some .cell=>true|some .free=>true|_=>false
theorem qBY{sc:Scope}{x:Str}(h:qEW sc x=true):_L.Vis sc x:=by
 unfold qEW at h;unfold _L.Vis;split at h<;>first|(rename_i e;simp[e])|cases h
noncomputable def glB(sc:Scope)(x:Str):Bool:=sc.names.lookup x==some .globalImplicit
noncomputable def okN(x:Str):Bool:=!(x==("__debug__":Str))&&!(x==("__classdict__":Str))&&!decide (x="__name__")
noncomputable def qFI:Operator->Option BOp
 | .Add=>some .add | .Sub=>some .sub | .Mult=>some .mul | .FloorDiv=>some .fdiv | .Mod=>some .mod | .Pow=>some .pow | .BitAnd=>some .band|_=>none
theorem qA4{o:Operator}{b:BOp}(h:qFI o=some b):o=opB b:=by
 cases o<;>cases h<;>rfl
noncomputable def O2:CmpOp->COp
 | .Lt=>.lt | .LtE=>.le | .Gt=>.gt | .GtE=>.ge | .Eq=>.eq | .NotEq=>.ne | .In=>.inn | .NotIn=>.notin | .Is=>.is | .IsNot=>.isnot
theorem D5(o:CmpOp):o=opC (O2 o):=by cases o<;>rfl
noncomputable def D0:Expr->Bool
 | .Set ..=>false
 |_=>true
noncomputable def I0:Expr->Bool
 | .Call ..=>false
 |_=>true
noncomputable def bfL:List (Str×BF):=[("len",.len),("sum",.sum),("max",.max),("min",.min),("list",.list),("int",.int)]
noncomputable def qEg(x:Str):Option BF:=bfL.lookup x
theorem Ze{x:Str}{f:BF}:∀{l:List (Str×BF)},l.lookup x=some f->(x,f)∈l
 | [],h=>by cases h
 | (a,b)::l,h=>by
  rw[List.lookup_cons]at h;split at h
  ·rename_i e;cases h;rw[eq_of_beq e];exact wN ..
  ·exact wI _ (Ze h)
theorem qDJ:∀p∈bfL,bootBuiltins p.1=some (fnB p.2):=
 wq.mpr ⟨PySem.boot_len,wq.mpr ⟨PyProof.Rows.boot_sum,wq.mpr ⟨PyProof.Rows.boot_max,wq.mpr ⟨PyProof.Rows.boot_min,wq.mpr ⟨PyProof.Rows.boot_list,wq.mpr ⟨PyProof.Rows.boot_int,(λ_ h=>absurd h wt)⟩⟩⟩⟩⟩⟩
theorem U7{x:Str}{f:BF}(h:qEg x=some f):bootBuiltins x=some (fnB f):=qDJ _ (Ze h)
noncomputable def mt0(m:Str):Option Mt:=if m="clear" then some .clr else none
noncomputable def mxA(b:BF)(as:List Expr):BF:=if decide (b=.max)&&decide (as.length=1) then .maxl else b
theorem qCt{x:Str}{f:BF}{as:List Expr}(h:qEg x=some f):bootBuiltins x=some (fnB (mxA f as)):=by
 unfold mxA;split
 ·rename_i c;rw[wE,uH]at c;rw[U7 h,c.1];rfl
 ·exact U7 h
noncomputable def qE4(x:Str):Option String:=
 if x="int" then some "int" else if x="bool" then some "bool" else if x="list" then some "list" else if x="tuple" then some "tuple" else if x="str" then some "str" else if x="dict" then some "dict" else none
theorem qBI{x:Str}{t:String}(h:qE4 x=some t):bootBuiltins x=some (.type t)/\Jz t=true:=by
 unfold qE4 at h
 repeat' split at h
 all_goals first|cases h|skip
 all_goals (rename_i hx;subst hx)
 ·exact⟨PyProof.Rows.boot_int,by decide⟩
 ·exact⟨PyProof.Rows.boot_bool,by decide⟩
 ·exact⟨PyProof.Rows.boot_list,by decide⟩
 ·exact⟨PyProof.Rows.boot_tuple,by decide⟩
 ·exact⟨PyProof.Rows.boot_str,by decide⟩
 ·exact⟨PyProof.Rows.boot_dict,by decide⟩
noncomputable def qD4(scope sc:Scope):Scope:=
 { scope with names:=scope.names.map λ(n,k)=>if (k==.free&&sc.kind==.function&&sc.names.lookup n==some .cell) then (n,.cell) else (n,k) }
noncomputable def W0:Expr->List Str
 | .Name x _=>[x]
 | .Tuple es _ _=>es.filterMap λe:Expr=>match e with | .Name x _=>some x|_=>none
 |_=>[]
noncomputable def qDj(scope:Scope):List Str:=scope.names.filterMap λy=>if y.2=.free then some y.1 else none
noncomputable def JC(Γ:Gam)(scope:Scope)(N:List Str)(src:List (Option Nat)):Bool:=
 decide (scope.kind=.function)&&scope.names.all (λy=>decide (scope.names.lookup y.1=some y.2))
 && scope.names.all (λy=>decide (y.2=.free->(Γ.sc.names.lookup y.1=some .cell\/Γ.sc.names.lookup y.1=some .free)))&&decide N.Nodup&&decide (src.length=N.length)
 && (List.range N.length).all (λi=>match N[i]?,src[i]? with|some x,some (some j)=>decide (Γ.N[j]?=some x/\scope.names.lookup x=some .free)|_,_=>true)
noncomputable def J5(Γ:Gam)(x:Str):Bool:=match Γ.sc.names.lookup x with|some .local=>true|some .cell=>Γ.own x|_=>false
noncomputable def qD0(Γ:Gam):List Expr->Option (List Nat)
 | []=>some []
 | .Name x _::r=>if J5 Γ x then (match slot Γ.N x,qD0 Γ r with|some i,some is=>some (i::is)|_,_=>none) else none
 |_=>none
noncomputable def trT(Γ:Gam):Expr->Option Tg
 | .Name x _=>if J5 Γ x then (slot Γ.N x).map .name else none
 | .Tuple es _ _=>(qD0 Γ es).map .tup
 |_=>none
noncomputable def qAf:List Expr->Bool
 | [.Call (.Name r _) [_] [] _]=>decide (r="set")
 |_=>false
noncomputable def qGQ:Expr->Bool
 | .Name x _=>(["_law_shelf"]:List Str).contains x
 |_=>false
noncomputable def qEO:List Expr->Bool
 | [.Call (.Name r _) [_] [] _]=>decide (r="range")
 | [.Call (.Name r _) [_,_] [] _]=>decide (r="range")
 |_=>false
noncomputable def D7(g:Nat):E->Bool
 | .glob i=>i==g
 |_=>false
noncomputable def qAU(Γ:Gam):E->Bool
 | .glob g=>Γ.gl.any λp=>((Γ.gl.lookup p.1).map (D7 g)).getD false
 |_=>true
noncomputable def qFa:E->Bool
 |_=>true
mutual
noncomputable def trE:Nat->Gam->Expr->Option E
 | 0,_,_=>none
 |n+1,Γ,e=>match e with
  | .Constant c _ _=>(match c with
   | .int i=>some (.cst (.int i))
   | .bool i=>some (.cst (.bl i))
   | .none=>some (.cst .non)
   | .str i=>some (.cst (.str i))
   |_=>none)
  | .Name x _=>if okN x then (if qEW Γ.sc x then (slot Γ.N x).map .var else if glB Γ.sc x then Γ.gl.lookup x else none) else none
  | .BinOp a op b _=>match qFI op,trE n Γ a,trE n Γ b with|some o,some a',some b'=>some (.bin o a' b')|_,_,_=>none
  | .UnaryOp op a _=>(match op with
   | .USub=>(trE n Γ a).map .neg
   | .Not=>(trE n Γ a).map .not
   |_=>none)
  | .BoolOp op vs p=>trB n Γ op p vs
  | .IfExp c a b _=>match trE n Γ c,trE n Γ a,trE n Γ b with|some c',some a',some b'=>some (.ite c' a' b')|_,_,_=>none
  | .Compare a ops bs _=>(match ops,bs with
   | [op],[b]=>if D0 b then (match trE n Γ a,trE n Γ b with|some a',some b'=>some (.cmp (O2 op) a' b')|_,_=>none) else none
   | [o1,o2],[b,c]=>if D0 c then (match trE n Γ a,trE n Γ b,trE n Γ c with|some a',some b',some c'=>some (.cmp2 (O2 o1) (O2 o2) a' b' c')|_,_,_=>none) else none
   |_,_=>none)
  | .Call fn args kws cpos=>(match kws with
   | []=>(match fn with
    | .Name f _=>if okN f&&glB Γ.sc f&&args.all qS then trC n Γ f args else none
    | .Attribute o m apos=>(match args with
     | [x]=>if m="append"/\I0 o=true/\qS x=true/\(apos.endLine==cpos.line)=true then (match trE n Γ o,trE n Γ x with|some o',some x'=>some (.app o' x')|_,_=>none)
   else if m="index"/\I0 o=true/\qS x=true/\(apos.endLine==cpos.line)=true then (match trE n Γ o,trE n Γ x with|some o',some x'=>if qAU Γ o' then some (.index o' x') else none|_,_=>none) else none
     | []=>if I0 o=true/\(apos.endLine==cpos.line)=true then (match trE n Γ o,mt0 m with|some o',some k=>some (.meth k o' .nil)|_,_=>none) else none
     |_=>none)
    |_=>none)
   |_=>none)
  | .Subscript a b _=>(match b with
   | .Slice lo hi st _=>(match st with
    |none=>(match trE n Γ a,trO n Γ lo,trO n Γ hi with|some a',some l,some h=>some (.sl a' l h)|_,_,_=>none)
    |some _=>none)
   |b=>if jw b then (match trE n Γ a,trE n Γ b with|some a',some b'=>some (if qGQ a then .dix a' b' else .idx a' b')|_,_=>none) else none)
  | .List es _=>if es.all qS then (trA n Γ es).map .lst else none
  | .Tuple es _ _=>if es.all qS then (trA n Γ es).map .tup else none
  | .Dict ks vs _=>(match ks,vs with|[],[]=>some .dnew|_,_=>none)
  | .ListComp elt gens scope _=>(match gens with
   | [gen]=>(match gen with
    | ⟨tg,iter,ifs,asy⟩=>(match asy with
     | 0=>
      let N:=W0 tg++qDj scope
      let src:=(W0 tg).map (λ_=>none)++(qDj scope).map (slot Γ.N)
      let Γ':Gam:={ Γ with N:=N,sc:=qD4 scope Γ.sc,own:=λx=>decide (scope.names.lookup x=some .cell) }
      if JC Γ scope N src&&D0 iter then (match trI n Γ tg iter,trT Γ' tg,qCA n Γ' ifs,trE n Γ' elt with|some it,some g,some c,some e'=>some (.comp it src g c e')|_,_,_,_=>none) else none
     |_=>none))
   |_=>none)
  |_=>none
noncomputable def trA:Nat->Gam->List Expr->Option Es
 | 0,_,_=>none
 |_+1,_,[]=>some .nil
 |n+1,Γ,e::es=>match trE n Γ e,trA n Γ es with|some a,some as=>some (.cons a as)|_,_=>none
noncomputable def trB:Nat->Gam->BoolOp->Pos->List Expr->Option E
 | 0,_,_,_,_=>none
 |_+1,_,_,_,[]=>none
 |n+1,Γ,_,_,[a]=>trE n Γ a
 |n+1,Γ,op,p,a::b::r=>match trE n Γ a,trB n Γ op p (b::r) with|some a',some b'=>some (match op with | .And=>.and a' b' | .Or=>.or a' b')|_,_=>none
noncomputable def trC:Nat->Gam->Str->List Expr->Option E
 | 0,_,_,_=>none
 |n+1,Γ,f,args=>match slot Γ.fns f with
  |some i=>(trA n Γ args).map (.call i)
  |none=>if Γ.bl.contains f then
    (if f="isinstance" then (match args with
     | [a,.Name t _]=>if okN t&&glB Γ.sc t&&Γ.bl.contains t then (match trE n Γ a,qE4 t with|some a',some t'=>some (.isi a' [t'])|_,_=>none) else none
     |_=>none)
    else if f="list"/\qEO args=true then (match args with
     | [.Call (.Name r _) [a] [] _]=>if okN r&&glB Γ.sc r&&Γ.bl.contains r&&qS a&&decide (r="range") then (trE n Γ a).map .lrng else none
     |_=>none)
    else if f="len"/\qAf args=true then (match args with
     | [.Call (.Name r _) [a] [] _]=>if okN r&&glB Γ.sc r&&Γ.bl.contains r&&qS a&&decide (r="set") then (trE n Γ a).map .nset else none
     |_=>none)
    else if f="sorted"/\qAf args=true then (match args with
     | [.Call (.Name r _) [a] [] _]=>if okN r&&glB Γ.sc r&&Γ.bl.contains r&&qS a&&decide (r="set") then (trE n Γ a).map .sset else none
     |_=>none)
    else match qEg f,args with
     |some b,_::_=>(trA n Γ args).map (.blt (mxA b args))
     |_,_=>none)
   else none
noncomputable def trO:Nat->Gam->Option Expr->Option Es
 | 0,_,_=>none
 |_+1,_,none=>some .nil
 |n+1,Γ,some e=>(trE n Γ e).map λa=>.cons a .nil
noncomputable def qCA:Nat->Gam->List Expr->Option Es
 | 0,_,_=>none
 |_+1,_,[]=>some .nil
 |n+1,Γ,[c]=>(trE n Γ c).map λa=>.cons a .nil
 |_,_,_=>none
noncomputable def trI:Nat->Gam->Expr->Expr->Option Itr
 | 0,_,_,_=>none
 |n+1,Γ,tg,iter=>match iter with
  | .Call (.Name f _) args [] _=>
   if f="range" then (if glB Γ.sc f&&Γ.bl.contains f&&args.all qS then (match args with
    | [a]=>(trE n Γ a).map .rng1
    | [a,b]=>match trE n Γ a,trE n Γ b with|some a',some b'=>some (.rng2 a' b')|_,_=>none
    |_=>none) else none)
   else if f="zip" then (if glB Γ.sc f&&Γ.bl.contains f&&args.all qS then (match tg,args with
    | .Tuple ..,[a,b]=>match trE n Γ a,trE n Γ b with|some a',some b'=>some (.zip a' b')|_,_=>none
    |_,_=>none) else none)
   else (trE n Γ iter).map .list
  |_=>(trE n Γ iter).map .list
end
mutual
noncomputable def trS:Nat->Gam->Stmt->S
 | 0,_,_=>.stop
 |n+1,Γ,st=>match st with
  | .Assign ts v _=>(match ts with
   | [tgt]=>(match tgt with
    | .Name x _=>(match trT Γ (.Name x ⟨0,0,0,0⟩),trE 60 Γ v with|some g,some a=>if qFa a then .asg g a else .stop|_,_=>.stop)
    | .Tuple es k p=>(match es,v with
     | [.Name _ _,.Name _ _],.Tuple [_,_] _ _=>.stop
     |es,v=>if ZH v&&qDG v then (match trT Γ (.Tuple es k p),trE 60 Γ v with|some g,some a=>.asg g a|_,_=>.stop) else .stop)
    | .Subscript o i _=>if jw i then (match trE 60 Γ o,trE 60 Γ i,trE 60 Γ v with|some o',some i',some v'=>.put o' i' v' | _,_,_=>.stop) else .stop
    |_=>.stop)
   |_=>.stop)
  | .Expr e _=>if ZH e then (match trE 60 Γ e with|some a=>.expr a|none=>.stop) else .stop
  | .Return r _=>(match r with
   |some e=>(match trE 60 Γ e with|some a=>.ret a|none=>.stop)
   |none=>.stop)
  | .If c t u _=>match trE 60 Γ c with|some c'=>.ifs c' (d8 n Γ t) (d8 n Γ u)|none=>.stop
  | .For tg iter b els _=>(match els with
   | []=>if D0 iter then (match trI 60 Γ tg iter,trT Γ tg with|some it,some g=>.for_ g it (d8 n Γ b)|_,_=>.stop) else .stop
   |_=>.stop)
  |_=>.stop
noncomputable def d8:Nat->Gam->List Stmt->Ss
 | 0,_,_=>.cons .stop .nil
 |_+1,_,[]=>.nil
 |n+1,Γ,s::r=>.cons (trS n Γ s) (d8 n Γ r)
end
structure Fit(Γ:Gam)(X:Cx)(G:List Addr)(F:Nat->List V->AH->RV):Prop where
 hN:X.N=Γ.N
 nd:Γ.N.Nodup
 sc:X.env.scope=Γ.sc
 calm:X.calm=true
 fn:∀x,Γ.own x=true->X.fn x=true
 fns:∀(f:Nat) x,Γ.fns[f]?=some x->FnS X G F f x
 gls:∀x e,Γ.gl.lookup x=some e->(∃v u,e=.cst v/\X.mg x=some u/\RelV v u/\∀φ,rv φ v v)\/(∃g a,e=.glob g/\X.mg x=some (.ref a)/\G[g]?=some a)
 blt:∀x,Γ.bl.contains x=true->X.mg x=none
 hu:X.A.units+8<cLine
 gd:X.A.guards=some []
 gtu:∀a∈G,∃o,X.K.lookup a=some o/\o.cls=.type "tuple"/\o.dict=none
section
variable{Γ:Gam}{X:Cx}{G:List Addr}{F:Nat->List V->AH->RV}
theorem c8{x:Str}(h:okN x=true):(x==("__debug__":Str))=false/\(x==("__classdict__":Str))=false/\x≠"__name__":=by
 unfold okN at h;simp only[wE,Bool.not_eq_true',decide_eq_false_iff_not]at h;exact⟨h.1.1,h.1.2,h.2⟩
theorem Fit.gl'(f:Fit Γ X G F){x:Str}(h:glB Γ.sc x=true):_L.Gl X x:=by
 unfold _L.Gl Env.kindOf;rw[f.sc];simpa [glB] using h
theorem Fit.store(f:Fit Γ X G F){x:Str}(h:J5 Γ x=true):_L.Loc X.env.scope x/\(X.fn x=true\/X.env.scope.names.lookup x=some .local):=by
 rw[f.sc];unfold J5 at h;unfold _L.Loc;split at h
 ·rename_i e;exact⟨.inl e,.inr e⟩
 ·rename_i e;exact⟨.inr e,.inl (f.fn x h)⟩
 ·cases h
theorem qAH(f:Fit Γ X G F):∀{es:List Expr}{is:List Nat},qD0 Γ es=some is->PGs X es (tGs is)/\(assignEach es X.env).length=is.length/\(assignEach es X.env).findIdx? (·.1)=none
 | [],is,h=>by
  cases h;exact⟨qB0,rfl,rfl⟩
 |e::es,is,h=>by
  unfold qD0 at h;split at h
  ·rename_i e1;cases e1
  ·rename_i x p r e1;cases e1;split at h
   ·rename_i hs;split at h
    ·rename_i i is' ei eis;cases h;obtain⟨h1,h2⟩:=f.store hs;obtain⟨g1,g2,g3⟩:=qAH f eis;refine⟨u9 (by rw[f.hN];exact f.nd) (by rw[f.hN];exact jv ei) h1 h2 g1,?_,?_⟩
     ·show (assignEach es X.env).length+1=_;rw[g2];rfl
     ·show (((false,assign (.Name x p) X.env)::assignEach es X.env).findIdx? (·.1))=none;rw[List.findIdx?_cons,g3];rfl
    ·cases h
   ·cases h
  ·cases h
theorem R6(f:Fit Γ X G F){tg:Expr}{g:Tg}(h:trT Γ tg=some g):SG X G tg g:=by
 unfold trT at h;split at h
 ·rename_i x p;split at h
  ·rename_i hs;obtain⟨i,ei,rfl⟩:=wA.mp h;obtain⟨h1,h2⟩:=f.store hs;exact Z2 (by rw[f.hN];exact f.nd) (by rw[f.hN];exact jv ei) h1 h2
  ·cases h
 ·obtain⟨is,ei,rfl⟩:=wA.mp h;obtain⟨g1,g2,g3⟩:=qAH f ei;exact qDM f.calm g1 g2 g3
 ·cases h
theorem g9{op:CmpOp}{e:Expr}(h:D0 e=true):behindInMarks op e=false:=by
 cases e<;>first|rfl|cases h
theorem a4{o1 o2:CmpOp}{b c:Expr}(h:D0 c=true):lastMarks [o1,o2] [b,c]=false:=by
 show behindInMarks o2 c=false;exact g9 h
theorem Z3{iter:Expr}{env:Env}(h:D0 iter=true):∀x,foldedSetIterable iter env x=pure x:=by
 intro x;cases iter<;>first|rfl|cases h
theorem X6{o:Expr}{n:Str}{env:Env}{w:Sem Value}(h:I0 o=true):attributeBase o n env w=w:=by
 cases o<;>first|rfl|cases h
theorem QF(f:Fit Γ X G F){scope:Scope}{N:List Str}{src:List (Option Nat)}(h:JC Γ scope N src=true):_L.CompScope X scope N src:=by
 unfold JC at h;simp only[wE,vA,uH]at h;obtain⟨⟨⟨⟨⟨h1,h2⟩,h4⟩,h5⟩,h6⟩,h7⟩:=h;refine⟨h1,h2,λy hy hk=>?_,h5,h6,λi x j e1 e2=>?_⟩
 ·unfold Env.kindOf;rw[f.sc];exact h4 y hy hk
 ·have hi:i<N.length:=(wB.mp e1).1;have:=h7 i (wg.mpr hi);rw[e1,e2]at this;rw[f.hN];simpa using this
theorem jF(f:Fit Γ X G F){scope:Scope}{N:List Str}{src:List (Option Nat)}(h:JC Γ scope N src=true)(C:Addr)(fp:List Addr)(s:Shared)(H:Hp):
  Fit { Γ with N:=N,sc:=qD4 scope Γ.sc,own:=λx=>decide (scope.names.lookup x=some .cell) } (_L.cxComp X scope C fp s H N) G F:=by
 have S:=QF f h;refine⟨rfl,S.nd,?_,f.calm,λx z=>z,λg x e=>?_,f.gls,f.blt,f.hu,f.gd,f.gtu⟩
 ·show relabel scope X.env=qD4 scope Γ.sc;unfold relabel qD4 Env.kindOf;rw[f.sc]
 ·exact⟨(f.fns g x e).ex⟩
theorem l0{m:Str}{k:Mt}{o:Expr}{a:E}{apos cpos:Pos}(hk:mt0 m=some k)(hbase:attributeBase o m X.env (eval o X.env)=eval o X.env)(hline:(apos.endLine==cpos.line)=true)(ha:SE X G F o a):SE X G F (.Call (.Attribute o m apos) [] [] cpos) (.meth k a .nil):=by
 unfold mt0 at hk;split at hk
 ·rename_i e;subst e;cases hk;exact qBR hbase hline ha
 ·cases hk
theorem Y6(f:Fit Γ X G F){a:E}(h:qAU Γ a=true):∀g,a=.glob g->∃ga o,G[g]?=some ga/\X.K.lookup ga=some o/\o.cls=.type "tuple"/\o.dict=none:=by
 rintro g rfl;obtain⟨p,_,hp⟩:=ve.mp h;cases hl:Γ.gl.lookup p.1 with
 |none=>rw[hl]at hp;cases hp
 |some e=>
  rw[hl]at hp;replace hp:D7 g e=true:=hp;unfold D7 at hp;split at hp
  ·rename_i i;have:i=g:=by simpa using hp
   subst this;rcases f.gls _ _ hl with⟨v,u,z,_⟩|⟨g',ga,z,_,hg⟩
   ·cases z
   ·cases z;obtain⟨o,h1⟩:=f.gtu ga (wS hg);exact⟨ga,o,hg,h1⟩
  ·cases hp
theorem K1(n:Nat):
  (∀ Γ e a,trE n Γ e=some a->∀X:Cx,Fit Γ X G F->SE X G F e a/\ST X G F e a)/\
  (∀ Γ es as,trA n Γ es=some as->es.all qS=true->∀X:Cx,Fit Γ X G F->SA X G F es as)/\
  (∀ Γ op p vs a,trB n Γ op p vs=some a->∀X:Cx,Fit Γ X G F->SE X G F (.BoolOp op vs p) a/\SW X G F (.BoolOp op vs p) a)/\
  (∀ Γ f args a,trC n Γ f args=some a->okN f=true->glB Γ.sc f=true->args.all qS=true->∀X:Cx,Fit Γ X G F->∀p pos,SE X G F (.Call (.Name f p) args [] pos) a)/\
  (∀ Γ o as,trO n Γ o=some as->∀X:Cx,Fit Γ X G F->SO X G F o as)/\
  (∀ Γ ifs as,qCA n Γ ifs=some as->∀X:Cx,Fit Γ X G F->SC X G F ifs as)/\
  (∀ Γ tg iter it,trI n Γ tg iter=some it->∀X:Cx,Fit Γ X G F->SI X G F tg iter it):=by
 induction n with
 |zero=>exact⟨(λ_ _ _ h=>by unfold trE at h;cases h),(λ_ _ _ h=>by unfold trA at h;cases h),(λ_ _ _ _ _ h=>by unfold trB at h;cases h),(λ_ _ _ _ h=>by unfold trC at h;cases h),(λ_ _ _ h=>by unfold trO at h;cases h),(λ_ _ _ h=>by unfold qCA at h;cases h),(λ_ _ _ _ h=>by unfold trI at h;cases h)⟩
 |succ n ih=>
  obtain⟨iE,iA,iB,iC,iO,iIf,iI⟩:=ih;refine⟨?_,?_,?_,?_,?_,?_,?_⟩
  ·intro Γ e a h X f;unfold trE at h;split at h
   ·split at h
    ·cases h;exact⟨qAs,qP qAs λ_=>rfl⟩
    ·cases h;exact⟨qDT,qP qDT λ_=>rfl⟩
    ·cases h;exact⟨qAV,qP qAV λ_=>rfl⟩
    ·cases h;exact⟨qAX,qP qAX λ_=>rfl⟩
    ·cases h
   ·rename_i x p;split at h
    ·rename_i ho;obtain⟨o1,o2,o3⟩:=c8 ho;split at h
     ·rename_i hv;obtain⟨i,ei,rfl⟩:=wA.mp h;have s1:SE X G F (.Name x p) (.var i):=qDg (by rw[f.hN];exact jv ei) (by rw[f.sc];exact qBY hv) o1 o2;exact⟨s1,qP s1 λ_=>rfl⟩
     ·split at h
      ·rename_i hg;rcases f.gls x a h with⟨v,u,rfl,e1,e2,e3⟩|⟨g,ad,rfl,e1,e2⟩
       ·have s1:SE X G F (.Name x p) (.cst v):=qA6 (f.gl' hg) e1 e2 e3 o1;exact⟨s1,qP s1 λ_=>rfl⟩
       ·have s1:SE X G F (.Name x p) (.glob g):=qBx (f.gl' hg) e1 e2 o1;exact⟨s1,qP s1 λ_=>rfl⟩
      ·cases h
    ·cases h
   ·split at h
    ·rename_i o a' b' eo ea eb;cases h;rw[qA4 eo];exact⟨qAZ (iE _ _ _ ea X f).1 (iE _ _ _ eb X f).1,qP (qAZ (iE _ _ _ ea X f).1 (iE _ _ _ eb X f).1) λ_=>rfl⟩
    ·cases h
   ·split at h
    ·obtain⟨a',ea,rfl⟩:=wA.mp h;have s1:=qCS (pos:=‹Pos›) (iE _ _ _ ea X f).1;exact⟨s1,qP s1 λ_=>rfl⟩
    ·obtain⟨a',ea,rfl⟩:=wA.mp h;exact⟨qC7 (iE _ _ _ ea X f).1,qDo (iE _ _ _ ea X f).2⟩
    ·cases h
   ·obtain⟨s1,s2⟩:=iB _ _ _ _ _ h X f;exact⟨s1,s2.pt⟩
   ·split at h
    ·rename_i c' a' b' ec ea eb;cases h;exact⟨qDB (iE _ _ _ ec X f).2 (iE _ _ _ ea X f).1 (iE _ _ _ eb X f).1,qDc (iE _ _ _ ec X f).2 (iE _ _ _ ea X f).2 (iE _ _ _ eb X f).2⟩
    ·cases h
   ·split at h
    ·rename_i op b0;split at h
     ·rename_i hs;split at h
      ·rename_i a' b' ea eb;cases h;rw[D5 op];have e1:O2 (opC (O2 op))=O2 op:=by cases op<;>rfl
       rw[e1];exact⟨qDV f.hu (iE _ _ _ ea X f).1 (iE _ _ _ eb X f).1 (g9 hs),qDq f.hu (iE _ _ _ ea X f).1 (iE _ _ _ eb X f).1 (g9 hs)⟩
      ·cases h
     ·cases h
    ·rename_i o1 o2 b0 c0;split at h
     ·rename_i hs;split at h
      ·rename_i a' b' c' ea eb ec;cases h;rw[D5 o1,D5 o2];have e1:O2 (opC (O2 o1))=O2 o1:=by cases o1<;>rfl
       have e2:O2 (opC (O2 o2))=O2 o2:=by cases o2<;>rfl
       rw[e1,e2];exact⟨v4 f.hu (iE _ _ _ ea X f).1 (iE _ _ _ eb X f).1 (iE _ _ _ ec X f).1 (a4 hs),j3 f.hu (iE _ _ _ ea X f).1 (iE _ _ _ eb X f).1 (iE _ _ _ ec X f).1 (a4 hs)⟩
      ·cases h
     ·cases h
    ·cases h
   ·split at h
    ·split at h
     ·split at h
      ·rename_i hc;simp only[wE]at hc;have s1:=iC _ _ _ _ h hc.1.1 hc.1.2 hc.2 X f;exact⟨s1 _ _,qP (s1 _ _) λ_=>rfl⟩
      ·cases h
     ·split at h
      ·split at h
       ·rename_i hc;obtain⟨rfl,hc1,hc2,hc3⟩:=hc;split at h
        ·rename_i o' x' eo ex;cases h;have s1:=qCY (X6 hc1) hc3 hc2 (iE _ _ _ eo X f).1 (iE _ _ _ ex X f).1;exact⟨s1,qP s1 λ_=>rfl⟩
        ·cases h
       ·split at h
        ·rename_i hc;obtain⟨rfl,hc1,hc2,hc3⟩:=hc;split at h
         ·rename_i o' x' eo ex;split at h
          ·rename_i hgo;cases h;have s1:=j6 (Y6 f hgo) (X6 hc1) hc3 hc2 (iE _ _ _ eo X f).1 (iE _ _ _ ex X f).1;exact⟨s1,qP s1 λ_=>rfl⟩
          ·cases h
         ·cases h
        ·cases h
      ·split at h
       ·rename_i hc;obtain⟨hc1,hc3⟩:=hc;split at h
        ·rename_i o' k eo ek;cases h;have s1:=l0 ek (X6 hc1) hc3 (iE _ _ _ eo X f).1;exact⟨s1,qP s1 λ_=>rfl⟩
        ·cases h
       ·cases h
      ·cases h
     ·cases h
    ·cases h
   ·split at h
    ·split at h
     ·split at h
      ·rename_i a' l h' ea el eh;cases h;exact⟨qCb (iE _ _ _ ea X f).1 (iO _ _ _ el X f) (iO _ _ _ eh X f),qP (qCb (iE _ _ _ ea X f).1 (iO _ _ _ el X f) (iO _ _ _ eh X f)) λ_=>rfl⟩
      ·cases h
     ·cases h
    ·split at h
     ·rename_i hs;split at h
      ·rename_i a' b' ea eb;split at h
       ·cases h;have s1:=qCf (pos:=‹Pos›) f.hu hs (iE _ _ _ ea X f).1 (iE _ _ _ eb X f).1;exact⟨s1,qP s1 λ_=>rfl⟩
       ·cases h;have s1:=qCl (pos:=‹Pos›) hs (iE _ _ _ ea X f).1 (iE _ _ _ eb X f).1;exact⟨s1,qP s1 λ_=>rfl⟩
      ·cases h
     ·cases h
   ·split at h
    ·rename_i hs;obtain⟨a',ea,rfl⟩:=wA.mp h;have s1:=qCa (pos:=‹Pos›) (iA _ _ _ ea hs X f);exact⟨s1,qP s1 λ_=>rfl⟩
    ·cases h
   ·split at h
    ·rename_i hs;obtain⟨a',ea,rfl⟩:=wA.mp h;exact⟨qAt (iA _ _ _ ea hs X f),qP (qAt (iA _ _ _ ea hs X f)) λ_=>rfl⟩
    ·cases h
   ·split at h
    ·cases h;exact⟨a7,qP a7 λ_=>rfl⟩
    ·cases h
   ·split at h
    ·split at h;split at h
     ·dsimp only at h;split at h
      ·rename_i hc;simp only[wE]at hc;split at h
       ·rename_i it g c e' ei eg ec ee;cases h;have s1:=c9 (pos:=‹Pos›) f.calm (iI _ _ _ _ ei X f) (QF f hc.1) (λC fp s H=>R6 (jF f hc.1 C fp s H) eg) (λC fp s H=>iIf _ _ _ ec _ (jF f hc.1 C fp s H)) (λC fp s H=>(iE _ _ _ ee _ (jF f hc.1 C fp s H)).1) (Z3 hc.2);exact⟨s1,qP s1 λ_=>rfl⟩
       ·cases h
      ·cases h
     ·cases h
    ·cases h
   ·cases h
  ·intro Γ es as h hs X f;cases es with
   |nil=>simp only[trA]at h;cases h;exact S2
   |cons e es=>
    simp only[trA]at h;simp only[List.all_cons,wE]at hs;split at h
    ·rename_i a as ea eas;cases h;exact E6 hs.1 (iE _ _ _ ea X f).1 (iA _ _ _ eas hs.2 X f)
    ·cases h
  ·intro Γ op p vs a h X f;cases vs with
   |nil=>simp only[trB]at h;cases h
   |cons e r=>
    cases r with
    |nil=>
     simp only[trB]at h;obtain⟨s1,s2⟩:=iE _ _ _ h X f;refine⟨_L.pe_one s1,?_⟩;cases op with
     |And=>exact _L.pw_and1 s2
     |Or=>exact _L.pw_or1 s2
    |cons b r=>
     simp only[trB]at h;split at h
     ·rename_i a' b' ea eb;cases h;obtain⟨s1,s2⟩:=iE _ _ _ ea X f;obtain⟨s3,s4⟩:=iB _ _ _ _ _ eb X f;cases op with
      |And=>exact⟨qDs s1 s3,qCh s2 s4⟩
      |Or=>exact⟨qEy s1 s3,qED s2 s4⟩
     ·cases h
  ·intro Γ g args a h ho hg hs X f p pos;obtain⟨o1,o2,o3⟩:=c8 ho;unfold trC at h;split at h
   ·rename_i i ei;obtain⟨as,ea,rfl⟩:=wA.mp h;have sA:=iA _ _ _ ea hs X f;cases args with
    |nil=>
     have:as=.nil:=by
      cases n with
      |zero=>simp only[trA]at ea;cases ea
      |succ m=>simp only[trA]at ea;cases ea;rfl
     subst this;exact m5 (f.fns i g (jv ei)) (f.gl' hg) o1
    |cons e es=>
     simp only[List.all_cons,wE]at hs;exact qBk (f.fns i g (jv ei)) (f.gl' hg) o1 hs.1 hs.2 sA
   ·split at h
    ·rename_i hb;split at h
     ·rename_i hi;subst hi;split at h
      ·rename_i e0 t pt;split at h
       ·rename_i hc;simp only[wE]at hc;obtain⟨t1,t2,t3⟩:=c8 hc.1.1;split at h
        ·rename_i a' t' ea et;cases h;obtain⟨b1,b2⟩:=qBI et;simp only[List.all_cons,wE]at hs;exact qDl b2 (f.gl' hg) (f.blt _ hb) (f.gl' hc.1.2) (f.blt _ hc.2) b1 t3 t1 hs.1 (iE _ _ _ ea X f).1
        ·cases h
       ·cases h
      ·cases h
     ·split at h
      ·rename_i hl;obtain⟨rfl,_⟩:=hl;split at h
       ·rename_i r pr e0 pc;split at h
        ·rename_i hc;simp only[wE,uH]at hc;obtain⟨⟨⟨⟨c1,c2⟩,c3⟩,c4⟩,rfl⟩:=hc;obtain⟨a',ea,rfl⟩:=wA.mp h;exact qBS f.calm (f.gl' hg) (f.blt _ hb) (f.gl' c2) (f.blt _ c3) c4 (iE _ _ _ ea X f).1
        ·cases h
       ·cases h
      rename_i hneg;clear hneg;split at h
      ·rename_i hl;obtain⟨rfl,_⟩:=hl;split at h
       ·rename_i r pr e0 pc;split at h
        ·rename_i hc;simp only[wE,uH]at hc;obtain⟨⟨⟨⟨c1,c2⟩,c3⟩,c4⟩,rfl⟩:=hc;obtain⟨a',ea,rfl⟩:=wA.mp h;exact qA5 f.calm (f.gl' hg) (f.blt _ hb) (f.gl' c2) (f.blt _ c3) c4 (iE _ _ _ ea X f).1
        ·cases h
       ·cases h
      rename_i hneg;clear hneg;split at h
      ·rename_i hl;obtain⟨rfl,_⟩:=hl;split at h
       ·rename_i r pr e0 pc;split at h
        ·rename_i hc;simp only[wE,uH]at hc;obtain⟨⟨⟨⟨c1,c2⟩,c3⟩,c4⟩,rfl⟩:=hc;obtain⟨a',ea,rfl⟩:=wA.mp h;exact qBF f.calm (f.gl' hg) (f.blt _ hb) (f.gl' c2) (f.blt _ c3) c4 (iE _ _ _ ea X f).1
        ·cases h
       ·cases h
      rename_i hneg;clear hneg;split at h
      ·rename_i b e es eb;obtain⟨as,ea,rfl⟩:=wA.mp h;have sA:=iA _ _ _ ea hs X f;simp only[List.all_cons,wE]at hs;exact qC6 f.calm f.hu f.gd (f.gl' hg) (f.blt _ hb) (qCt eb) hs.1 hs.2 sA o3 o1
      ·cases h
    ·cases h
  ·intro Γ o as h X f;cases o with
   |none=>simp only[trO]at h;cases h;exact qBf
   |some e=>
    simp only[trO]at h;obtain⟨a,ea,rfl⟩:=wA.mp h;exact qBl (iE _ _ _ ea X f).1
  ·intro Γ ifs as h X f;cases ifs with
   |nil=>simp only[qCA]at h;cases h;exact qC4
   |cons e r=>
    cases r with
    |nil=>
     simp only[qCA]at h;obtain⟨a,ea,rfl⟩:=wA.mp h;exact qDO (iE _ _ _ ea X f).2
    |cons b r=>simp only[qCA]at h;cases h
  ·intro Γ tg iter it h X f;unfold trI at h;split at h
   ·rename_i fn p args pos;split at h
    ·rename_i hf;subst hf;split at h
     ·rename_i hc;simp only[wE]at hc;split at h
      ·rename_i e;obtain⟨a,ea,rfl⟩:=wA.mp h;have hs:=hc.2;simp only[List.all_cons,wE]at hs;exact qBa (f.gl' hc.1.1) (f.blt _ hc.1.2) hs.1 (iE _ _ _ ea X f).1
      ·rename_i e e2;split at h
       ·rename_i a' b' ea eb;cases h;have hs:=hc.2;simp only[List.all_cons,wE]at hs;exact qBO (f.gl' hc.1.1) (f.blt _ hc.1.2) hs.1 hs.2.1 (iE _ _ _ ea X f).1 (iE _ _ _ eb X f).1
       ·cases h
      ·cases h
     ·cases h
    ·split at h
     ·rename_i hf;subst hf;split at h
      ·rename_i hc;simp only[wE]at hc;split at h
       ·split at h
        ·rename_i a' b' ea eb;cases h;have hs:=hc.2;simp only[List.all_cons,wE]at hs;exact qC9 (f.gl' hc.1.1) (f.blt _ hc.1.2) hs.1 hs.2.1 (iE _ _ _ ea X f).1 (iE _ _ _ eb X f).1
        ·cases h
       ·cases h
      ·cases h
     ·obtain⟨a,ea,rfl⟩:=wA.mp h;exact a0 (iE _ _ _ ea X f).1
   ·obtain⟨a,ea,rfl⟩:=wA.mp h;exact a0 (iE _ _ _ ea X f).1
end
open _L (FnOk Fun zK Binds Room)
section
variable{G:List Addr}{F:Nat->List V->AH->RV}
theorem JH{Γ:Gam}{X:Cx}(f:Fit Γ X G F)(hx:∀x,Γ.own x=true){n:Nat}{elt:Expr}{gens:List Comprehension}{scope:Scope}{cpos p pos:Pos}{a:E}{x:Str}{g:Tg}(hd:qFa a=true)(h:trE n Γ (.ListComp elt gens scope cpos)=some a)
  (hg:trT Γ (.Name x ⟨0,0,0,0⟩)=some g):SS X G F (.Assign [.Name x p] (.ListComp elt gens scope cpos) pos) (.asg g a):=by
 cases n with
 |zero=>unfold trE at h;cases h
 |succ n=>
  unfold trT at hg;dsimp only at hg;split at hg
  ·rename_i hs;obtain⟨i,ei,rfl⟩:=wA.mp hg;obtain⟨h1,h2⟩:=f.store hs;obtain⟨iE,iA,iB,iC,iO,iIf,iI⟩:=K1 (G:=G) (F:=F) n;unfold trE at h;dsimp only at h;split at h
   ·split at h;split at h
    ·split at h
     ·rename_i hc;simp only[wE]at hc;split at h
      ·rename_i it g c e' ei' eg ec ee;cases h;exact qBg f.calm (iI _ _ _ _ ei' X f) (QF f hc.1) (λC fp s H=>R6 (jF f hc.1 C fp s H) eg) (λC fp s H=>iIf _ _ _ ec _ (jF f hc.1 C fp s H)) (λC fp s H=>(iE _ _ _ ee _ (jF f hc.1 C fp s H)).1) (Z3 hc.2) (by rw[f.hN];exact f.nd) (by rw[f.hN];exact jv ei) h1 h2
      ·cases h
     ·cases h
    ·cases h
   ·cases h
  ·cases hg
theorem X8(n:Nat):(∀ Γ st (X:Cx),Fit Γ X G F->(∀x,Γ.own x=true)->X.xe=(λ_ _=>False)->SS X G F st (trS n Γ st))/\(∀ Γ sts (X:Cx),Fit Γ X G F->(∀x,Γ.own x=true)->X.xe=(λ_ _=>False)->SSs X G F sts (d8 n Γ sts)):=by
 induction n with
 |zero=>
  refine⟨fun Γ st X f ho hx=>?_,fun Γ sts X f ho hx=>?_⟩
  ·unfold trS;exact qZ
  ·unfold d8;intro pins s σ H D I q;obtain⟨φ,h,σa,o,h',R,rs,e,k⟩:=q;unfold exs ex at e;cases e
 |succ n ih=>
  obtain⟨i1,i2⟩:=ih;obtain⟨iE,iA,iB,iC,iO,iIf,iI⟩:=K1 (G:=G) (F:=F) 60;refine⟨fun Γ st X f ho hx=>?_,fun Γ sts X f ho hx=>?_⟩
  ·unfold trS;split
   ·split
    ·split
     ·rename_i v pos _ _ x p;split
      ·rename_i g a eg ea;split
       ·rename_i hd;by_cases hc:ZH v=true
        ·refine JQ (_L.ps_asg (iE _ _ _ ea X f).1 (R6 f (tg:=.Name x p) eg) (Zi hc) (by cases v<;>rfl) rfl) λ_ _ _=>N0
        ·cases v with
         |ListComp elt gens scope cpos=>exact JH f ho hd ea eg
         |SetComp elt gens scope cpos=>unfold trE at ea;cases ea
         |DictComp k elt gens scope cpos=>unfold trE at ea;cases ea
         |_=>exact absurd rfl hc
       ·exact qZ
      ·exact qZ
     ·split
      ·exact qZ
      ·split
       ·rename_i hc;simp only[wE]at hc;split
        ·rename_i g a eg ea;have hg:=eg;unfold trT at hg;obtain⟨is,ei,rfl⟩:=wA.mp hg;exact qDx (R6 f eg) (iE _ _ _ ea X f).1 hc.1 hc.2
        ·exact qZ
       ·exact qZ
     ·split
      ·rename_i hc;split
       ·rename_i o' i' v' eo ei ev;exact qDf f.hu (iE _ _ _ eo X f).1 (iE _ _ _ ei X f).1 (iE _ _ _ ev X f).1 hc
       ·exact qZ
      ·exact qZ
     ·exact qZ
    ·exact qZ
   ·split
    ·rename_i hc;split
     ·rename_i a ea;exact qBn (iE _ _ _ ea X f).1 hc
     ·exact qZ
    ·exact qZ
   ·split
    ·split
     ·rename_i a ea;exact qDu (iE _ _ _ ea X f).1
     ·exact qZ
    ·exact qZ
   ·split
    ·rename_i a ea;exact qDU (iE _ _ _ ea X f).2 (i2 _ _ X f ho hx) (i2 _ _ X f ho hx)
    ·exact qZ
   ·split
    ·split
     ·rename_i hs;split
      ·rename_i it g ei eg;exact qCF hx f.calm (iI _ _ _ _ ei X f) (R6 f eg) (i2 _ _ X f ho hx) (Z3 hs)
      ·exact qZ
     ·exact qZ
    ·exact qZ
   ·exact qZ
  ·cases sts with
   |nil=>unfold d8;exact qAy
   |cons s r=>unfold d8;exact q9 (i1 _ _ X f ho hx) (i2 _ _ X f ho hx)
end
theorem len1{α:Type}{us:List α}(h:us.length=1):∃a,us=[a]:=List.length_eq_one_iff.mp h
theorem len2{α:Type}{us:List α}(h:us.length=2):∃a b,us=[a,b]:=by
 cases us with
 |nil=>cases h
 |cons a r=>obtain⟨b,rfl⟩:=len1 (us:=r) (by simpa using h);exact⟨a,b,rfl⟩
structure Q3 where
 x:Str
 st:Stmt
 ps:List Str
 N:List Str
set_option genInjectivity false in structure Tbl where
 ds:List Q3
 gl:List (Str×E)
 bl:List Str
 cls:List Str:=[]
 xr:List Str:=[]
noncomputable def Tbl.gam(T:Tbl)(d:Q3):Gam:=⟨d.N,_L.defScope d.st,T.ds.map (·.x),T.gl,T.bl,λ_=>true,T.cls,T.xr.contains d.x⟩
noncomputable def Tbl.fn(T:Tbl)(d:Q3):Fn:=⟨d.ps.length,d.N.length,d8 60 (T.gam d) (_L.defBody d.st)⟩
noncomputable def Tbl.fns(T:Tbl):List Fn:=T.ds.map T.fn
structure y8(K:PySem.W.Frag)(mg:Str->Option Value)(G:List Addr)(T:Tbl)(fa:List Addr)(fd:List FuncData):Prop where
 def_:∀(i:Nat) d,T.ds[i]?=some d->∃a f,fa[i]?=some a/\fd[i]?=some f/\Fun K d.x d.x d.st a f/\zK d.N d.ps (_L.defScope d.st)/\mg d.x=some (.ref a)/\Binds K f d.ps []
 gls:∀x e,T.gl.lookup x=some e->(∃v u,e=.cst v/\mg x=some u/\RelV v u/\∀φ,rv φ v v)\/(∃g a,e=.glob g/\mg x=some (.ref a)/\G[g]?=some a)
 blt:∀x,T.bl.contains x=true->mg x=none
 gtu:∀a∈G,∃o,K.lookup a=some o/\o.cls=.type "tuple"/\o.dict=none
theorem V7{φ:List Addr}{ws vs:List V}(r:rvs φ ws vs)(n:Nat):rst φ (ws.map some++List.replicate n none) (vs.map some++List.replicate n none):=by
 refine qN ?_ ?_
 ·induction r with
  |nil=>exact .nil
  |cons h t ih=>exact .cons ⟨_,rfl,h⟩ ih
 ·induction n with
  |zero=>exact .nil
  |succ n ih=>exact .cons trivial ih
section
variable{P:Program}{w:World}{K:PySem.W.Frag}{mg:Str->Option Value}{base:Heap}{G:List Addr}{T:Tbl}{fa:List Addr}{fd:List FuncData}
theorem qCN{k i:Nat}{d:Q3}(h1:T.ds[i]?=some d){ws:List V}{h h':AH}{v:V}(e:Fk T.fns (k+1) i ws h=.ok (v,h')):ws.length=d.ps.length/\d.ps.length<=d.N.length/\∃o,exs (Fk T.fns k) (d8 60 (T.gam d) (_L.defBody d.st)) (ws.map some++List.replicate (d.N.length-d.ps.length) none) h=.ok (o,h')/\
  ((∃σ,o=.nx σ/\v=.non)\/o=.rt v):=by
 unfold Fk at e;have ht:T.fns[i]?=some (T.fn d):=by unfold Tbl.fns;rw[wl,h1];rfl
 rw[ht]at e;dsimp only at e;split at e
 ·rename_i hc;obtain⟨⟨o,h2⟩,e2,e⟩:=tK e;have e4:exs (Fk T.fns k) (d8 60 (T.gam d) (_L.defBody d.st)) (ws.map some++List.replicate (d.N.length-d.ps.length) none) h=.ok (o,h2):=e2;refine⟨hc.1,hc.2,o,?_,?_⟩
  ·cases o<;>cases e<;>exact e4
  ·cases o with
   |nx σ=>cases e;exact .inl ⟨σ,rfl,rfl⟩
   |rt u=>cases e;exact .inr rfl
   |bk σ=>cases e
   |ct σ=>cases e
 ·cases e
theorem qDC(O:y8 K mg G T fa fd){k:Nat}{d:Q3}(f0:∀(i:Nat) d a f,T.ds[i]?=some d->fa[i]?=some a->fd[i]?=some f->FnOk P w K mg base _L.CX0 (2*k) a f d.ps (spF G (Fk T.fns k) K i))
  (hS:zK d.N d.ps (_L.defScope d.st)) (CX:_L.CXT) (a:Addr) (cdv:Value) (A:Around) (outer:List Env) (s:Shared) (H:Hp) (E:_L.XK) (E2:Value->Shared->Prop) (hr:Room (2*k+1) (A.deeper (envOfC d.x (_L.defScope d.st) s.heap.objs.size a cdv))):
  Fit (T.gam d) ((_L.cxOf CX P w K mg base d.N d.x (_L.defScope d.st) a cdv A outer s H E).wish E2) G (Fk T.fns k):=by
 have get:∀(g:Nat) x,(T.gam d).fns[g]?=some x->∃d2 a2 f2,T.ds[g]?=some d2/\d2.x=x/\fa[g]?=some a2/\fd[g]?=some f2/\mg x=some (.ref a2)/\PySem.W.keepIn K (.ref a2)=true/\Binds K f2 d2.ps []:=λg x eg=>by
  have eg':(T.ds.map (·.x))[g]?=some x:=eg;rw[wl]at eg';cases hd:T.ds[g]? with
  |none=>rw[hd]at eg';cases eg'
  |some d2=>
   rw[hd]at eg';cases eg';obtain⟨a2,f2,q1,q2,q3,q4,q5,q6⟩:=O.def_ g d2 hd;exact⟨d2,a2,f2,rfl,rfl,q1,q2,q5,q3.kp,q6⟩
 refine⟨rfl,hS.nd,rfl,rfl,λ_ _=>rfl,λg x eg=>?_,O.gls,O.blt,?_,hr.gd,O.gtu⟩
 ·obtain⟨d2,a2,f2,q1,rfl,q2,q3,q4,q5,q6⟩:=get g x eg;exact⟨2*k,a2,f2,d2.ps,f0 g d2 a2 f2 q1 q2 q3,hr.mono (Nat.le_succ _),q4,q5,q6,hr.in1⟩
 ·have:=hr.units;show (A.deeper (envOfC d.x (_L.defScope d.st) s.heap.objs.size a cdv)).units+8<cLine;omega
theorem M9(O:y8 K mg G T fa fd):∀(k:Nat) (i:Nat) d a f,T.ds[i]?=some d->fa[i]?=some a->fd[i]?=some f->FnOk P w K mg base _L.CX0 (2*k) a f d.ps (spF G (Fk T.fns k) K i)
 | 0=>λi d a f h1 h2 h3=>⟨(λvs H Q E h=>by obtain⟨_,_,_,_,_,_,_,e,_⟩:=h;unfold Fk at e;cases e),(λA outer s H args us vs Q E hr e0 hb r h=>by obtain⟨_,_,_,_,_,_,_,e,_⟩:=h;unfold Fk at e;cases e)⟩
 |k+1=>by
  have f0:=M9 O k;refine λi d a f h1 h2 h3=>?_;obtain⟨a',f',e1,e2,hF,hS,hm,hB⟩:=O.def_ i d h1;rw[h2]at e1;cases e1;rw[h3]at e2;cases e2;refine hF.ok hS (λvs H Q E h=>?_) (λcdv A outer s H vs Q E hr h=>?_)
  ·obtain⟨φ,h0,ws,v,h',R,r,e,_⟩:=h;rw[<-Paired.length r];exact(qCN h1 e).1
  ·obtain⟨φ,h0,ws,v,h',R,r,e,kk⟩:=h;obtain⟨l1,l2,o,eo,ho⟩:=qCN h1 e;have fit:=qDC O f0 hS _L.CX0 a cdv A outer s H E (λ_ _=>False) hr;refine⟨_,(X8 (G:=G) (F:=Fk T.fns k) 60).2 (T.gam d) (_L.defBody d.st) _ fit (λ_=>rfl) rfl,φ,h0,_,o,h',R,?_,eo,λφ' H' x' R'=>?_⟩
   ·unfold _L.start;rw[<-Paired.length r,l1];exact V7 r _
   ·rcases ho with⟨σ,rfl,rfl⟩|rfl
    ·exact λσc _=>kk φ' H' .non x' R' trivial
    ·exact λu ru=>kk φ' H' u x' R' ru
end
noncomputable def z0(K:PySem.W.Frag):_L.Sp:=λvs H Q _=>∃(a:Addr) (ns:List Int),vs=[.ref a]/\_L.Only H/\SqL K H a (ns.map V.int)/\ns.length<=63/\∀H',Q (.bl true) H'
noncomputable def Jw(gs:List O)(ns:List Int):AH:=gs++[.lst true (ns.map V.int)]
def L3(K:PySem.W.Frag):List Addr->List O->Prop
 | [],[]=>True
 |a::as,.tup xs::os=>(SqT K (λ_=>none) a xs/\xs.all flat=true)/\L3 K as os
 |_,_=>False
theorem Zs{φ:List Addr}:∀{xs:List V},xs.all flat=true->rvs φ xs xs
 | [],_=>.nil
 |x::xs,h=>by
  simp only[List.all_cons,wE]at h;refine .cons ?_ (Zs h.2);cases x<;>first|rfl|exact trivial|(cases h.1)
theorem j7{K:PySem.W.Frag}{H:Hp}{a:Addr}{xs:List V}(q:SqT K (λ_=>none) a xs):SqT K H a xs:=by
 rcases q with(h|⟨o,h⟩)|h
 ·cases h
 ·cases h
 ·exact .inr h
theorem Zb{K:PySem.W.Frag}:∀{as:List Addr}{os:List O},L3 K as os->as.length=os.length/\∀(i:Nat) o a,os[i]?=some o->as[i]?=some a->∃xs,o=.tup xs/\SqT K (λ_=>none) a xs/\xs.all flat=true
 | [],[],_=>⟨rfl,λi o a h=>by simp at h⟩
 | [],_::_,h=>False.elim h
 |_::_,[],h=>False.elim h
 |a::as,.lst _ _::os,h=>False.elim h
 |a::as,.tup xs::os,h=>by
  obtain⟨h1,h2⟩:=h;obtain⟨l,k⟩:=Zb h2;refine⟨by simp[l],λi o b e1 e2=>?_⟩;cases i with
  |zero=>simp at e1 e2;subst e1 e2;exact⟨xs,rfl,h1⟩
  |succ i=>exact k i o b (by simpa using e1) (by simpa using e2)
theorem U1{P:Program}{w:World}{K:PySem.W.Frag}{mg:Str->Option Value}{base:Heap}{G:List Addr}{gs:List O}{T:Tbl}{fa:List Addr}{fd:List FuncData}(O:y8 K mg G T fa fd)(hG:L3 K G gs){k i:Nat}{d:Q3}{a:Addr}{f:FuncData}
  (h1:T.ds[i]?=some d) (h2:fa[i]?=some a) (h3:fd[i]?=some f) (hp:d.ps=(["_law_script"]:List Str)) (main:∀ns:List Int,ns.length<=63->∃h',Fk T.fns k i [.ref gs.length] (Jw gs ns)=.ok (.bl true,h')):
  FnOk P w K mg base _L.CX0 (2*k) a f (["_law_script"]:List Str) (z0 K):=by
 have F:=M9 (P:=P) (w:=w) (base:=base) O k i d a f h1 h2 h3;rw[hp]at F;refine⟨λvs H Q E h=>by obtain⟨b,ns,rfl,_⟩:=h;rfl,λA outer s H args us vs Q E hr e0 hb r h=>?_⟩;obtain⟨b,ns,rfl,hO,hS,hl,q⟩:=h;obtain⟨h',e⟩:=main ns hl;obtain⟨lg,kg⟩:=Zb hG;refine F.run A outer s H args us _ Q E hr e0 hb r ⟨G++[b],Jw gs ns,[.ref gs.length],.bl true,h',⟨by unfold Jw;simp[lg],⟨[b],rfl⟩,λj o c e1 e2=>?_,λj l xs ys c e1 e2 e3 e4=>?_⟩,.cons (by show (G++[b])[gs.length]?=some b;rw[<-lg];simp) .nil,e,λφ' H' u x' R' ru=>by rw[qx ru];exact q H'⟩
 ·unfold Jw at e1;by_cases hj:j<gs.length
  ·rw[wC hj]at e1;rw[wC (by omega)]at e2;obtain⟨xs,rfl,h5,h6⟩:=kg j o c e1 e2;exact⟨xs,j7 h5,Zs h6⟩
  ·have hj':j=gs.length:=by
    have:=(wB.mp e1).1;simp at this;omega
   subst hj';simp at e1;rw[<-lg]at e2;simp at e2;subst e1 e2;refine⟨ns.map V.int,?_,Zs (jD ns)⟩;rcases hS with(z|⟨ob,z⟩)|z
   ·rcases hO b with y|⟨ob,xs,y⟩<;>(rw[y]at z;cases z)
   ·exact .inl ⟨ob,z⟩
   ·exact .inr (.inr z)
 ·have no:∀{m:Nat}{z:_P.O},z.mu=true->(Jw gs ns)[m]?=some z->False:=λ{m zs} mz em=>by
   unfold Jw at em;by_cases hj:m<gs.length
   ·rw[wC hj]at em;obtain⟨xs,ex,_⟩:=kg m _ (G[m]'(by omega)) em (wD (by omega));subst ex;cases mz
   ·have hj':m=gs.length:=by
     have:=(wB.mp em).1;simp at this;omega
    subst hj';simp at em;subst em;cases mz
  exact(no ‹_› ‹_›).elim
open _L
abbrev qCV(K:PySem.W.Frag)(d:Q3):Prop:=∃(f:Addr) (oc:Value) (od an:Option Addr) (sl:Array (Option Value)) (kV dc pm cd ct:Value),PySem.W.nsIn K mainGlobals d.x=some (some (.ref f))/\K.lookup f=some ⟨oc,od,.func (PySem.W.fnOf d.x d.x (zV d.st) (defBody d.st) (defScope d.st) .none kV dc pm an cd ct),sl⟩/\PySem.W.codeIn K cd d.x=true/\PySem.W.keepIn K (.ref f)=true
structure qCm(d:Q3):Prop where
 sc:zK d.N d.ps (defScope d.st)
 bd:∀(kV doc pm:Value) (an:Option Addr) (cdv ct:Value) (us:List Value),us.length=d.ps.length->bindArgs (PySem.W.fnOf d.x d.x (zV d.st) (defBody d.st) (defScope d.st) .none kV doc pm an cdv ct) ⟨us,[]⟩=pure (d.ps.zip us)
theorem qAo{K:PySem.W.Frag}{h:Heap}{mg:Str->Option Value}(X:K.In h)(G:h.Ns mainGlobals mg):∀(ds:List Q3),(∀d∈ds,qCV K d)->(∀d∈ds,qCm d)->∃(fa:List Addr) (fd:List FuncData),∀(i:Nat) d,ds[i]?=some d->∃a f,fa[i]?=some a/\fd[i]?=some f/\Fun K d.x d.x d.st a f/\zK d.N d.ps (_L.defScope d.st)/\mg d.x=some (.ref a)/\Binds K f d.ps []
 | [],_,_=>⟨[],[],λi d h=>by simp at h⟩
 |d::ds,h,hk=>by
  obtain⟨fa,fd,k⟩:=qAo X G ds (λx hx=>h x (by simp[hx])) λx hx=>hk x (by simp[hx]);obtain⟨f,oc,od,an,sl,kV,dc,pm,cd,ct,h1,h2,h3,h4⟩:=h d (by simp);have hd:=hk d (by simp);refine⟨f::fa,PySem.W.fnOf d.x d.x (zV d.st) (defBody d.st) (defScope d.st) .none kV dc pm an cd ct::fd,λi e he=>?_⟩;cases i with
  |zero=>cases he;exact⟨_,_,rfl,rfl,qAd h2 h3 h4,hd.sc,PySem.W.mg_of X G h1,(qAd h2 h3 h4).binds hd.bd⟩
  |succ i=>exact k i e he
theorem qEL{K:PySem.W.Frag}{d:Q3}{a:Addr}{f:FuncData}{x:Str}(F:Fun K d.x d.x d.st a f)(h:qCm d)(hp:d.ps=[x])(s:Shared)(v:Value):BindsTo s f ⟨[v],[]⟩ [(x,v)]:=by
 obtain⟨oc,od,kV,doc,pm,an,cdv,ct,osl,rfl,lk,hcd⟩:=F.ex;refine .of_eq ?_;rw[h.bd kV doc pm an cdv ct [v] (by rw[hp];rfl),hp];rfl
inductive T where
 |v (x:V)|cell (n:Nat)|fz (xs:List T)|lst (xs:List T)|tup (xs:List T)|ob (o:Ob)|dt (ks:List Int) (ts:List T)
noncomputable def Ob.fl:Ob->Bool
 | .dct kvs=>kvs.all λp=>flat p.2
 | .exn _=>true
noncomputable abbrev Mem:=List (List T)
noncomputable abbrev TS:=List (Option T)
inductive PR(α:Type)|ok(a:α)|exc(c:Nat)(M:Mem)|stuck
noncomputable def PR.bind{α β:Type}:PR α->(α->PR β)->PR β
 | .ok a,f=>f a
 | .exc c M,_=>.exc c M
 | .stuck,_=>.stuck
@[simp] theorem tD{α β:Type}(a:α)(f:α->PR β):(PR.ok a).bind f=f a:=Eq.trans rfl rfl
@[simp] theorem PR.bind_stuck{α β:Type}(f:α->PR β):(PR.stuck:PR α).bind f=.stuck:=Eq.trans rfl rfl
noncomputable def PR.nx{α:Type}:PR α->PR α
 | .ok a=>.ok a
 | .exc _ _=>.stuck
 | .stuck=>.stuck
@[simp] theorem PR.nx_ok{α:Type}(a:α):(PR.ok a).nx=.ok a:=Eq.trans rfl rfl
@[simp] theorem PR.nx_stuck{α:Type}:(PR.stuck:PR α).nx=.stuck:=Eq.trans rfl rfl
noncomputable def tH{α:Type}:Option α->PR α
 |some a=>.ok a
 |none=>.stuck
@[simp] theorem PR.ofO_some{α:Type}(a:α):tH (some a)=.ok a:=Eq.trans rfl rfl
mutual
noncomputable def T.lf:T->Bool
 | .v _=>true
 | .ob (.exn _)=>true
 | .tup ts=>T.lfs ts
 |_=>false
noncomputable def T.lfs:List T->Bool
 | []=>true
 |t::ts=>T.lf t&&T.lfs ts
end
mutual
noncomputable def T.und(n:Nat):T->Bool
 | .v _=>true
 | .ob _=>true
 | .cell k=>decide (k<n)
 | .fz ts=>T.unds n ts
 | .lst ts=>T.unds n ts
 | .tup ts=>T.unds n ts
 | .dt _ ts=>T.unds n ts
noncomputable def T.unds(n:Nat):List T->Bool
 | []=>true
 |t::ts=>T.und n t&&T.unds n ts
end
mutual
noncomputable def T.beq:T->T->Bool
 | .v x,.v y=>decide (x=y)
 | .cell x,.cell y=>decide (x=y)
 | .fz x,.fz y=>T.beqs x y
 | .lst x,.lst y=>T.beqs x y
 | .tup x,.tup y=>T.beqs x y
 | .ob x,.ob y=>decide (x=y)
 | .dt ks x,.dt js y=>decide (ks=js)&&T.beqs x y
 |_,_=>false
noncomputable def T.beqs:List T->List T->Bool
 | [],[]=>true
 |x::xs,y::ys=>T.beq x y&&T.beqs xs ys
 |_,_=>false
end
noncomputable abbrev jq:=List (Nat×List T)
noncomputable def qY(d:jq)(M:Mem):Bool:=d.all λp=>match M[p.1]? with|some ts=>T.beqs ts p.2|none=>false
noncomputable def T.its(M:Mem):T->Option (List T)
 | .lst xs=>some xs | .tup xs=>some xs | .fz xs=>some xs | .cell n=>M[n]? | _=>none
noncomputable def T.lis(M:Mem):T->Option (List T)
 | .lst xs=>some xs | .fz xs=>some xs | .cell n=>M[n]? | _=>none
noncomputable def T.mu(M:Mem):T->Option (List T)
 | .lst xs=>some xs | .cell n=>M[n]? | _=>none
noncomputable def qW:List T->Option (List Int)
 | []=>some []
 | .v (.int i)::r=>(qW r).map (i::·)
 |_::_=>none
noncomputable def ja:List T->Option (List Int)
 | []=>some []
 | .v (.int i)::r=>(ja r).map (i::·)
 | .v (.bl b)::r=>(ja r).map ((if b=true then 1 else 0)::·)
 |_=>none
noncomputable def qz:List T->Option (List V)
 | []=>some []
 | .v x::r=>(qz r).map (x::·)
 |_::_=>none
noncomputable def zh(f:T->T->Option Bool):List T->List T->Option (List Bool)
 | [],[]=>some []
 |x::xs,y::ys=>match f x y,zh f xs ys with
  |some b,some bs=>some (b::bs)
  |_,_=>none
 |_,_=>none
noncomputable def T.isV:T->Option V | .v x=>some x|_=>none
noncomputable def eqT(M:Mem):Nat->T->T->Option Bool
 | 0,s,t=>match s.isV,t.isV with|some x,some y=>eqF x y|_,_=>none
 |n+1,s,t=>match s.isV,t.isV with
  |some x,some y=>eqF x y
  |some _,none=>if (t.its M).isSome then some false else none
  |none,some _=>if (s.its M).isSome then some false else none
  |none,none=>match s.lis M,t.lis M with
   |some xs,some ys=>if xs.length=ys.length then (zh (eqT M n) xs ys).map λbs=>bs.all id else some false
   |some _,none=>if (t.its M).isSome then some false else none
   |none,some _=>if (s.its M).isSome then some false else none
   |none,none=>match s.its M,t.its M with
    |some xs,some ys=>if xs.length=ys.length then (zh (eqT M n) xs ys).map λbs=>bs.all id else (zh (eqT M n) (xs.take ys.length) (ys.take xs.length)).map λ_=>false
    |_,_=>none
noncomputable def Q5(xs:List T)(lo hi:Option Int):List T:=(xs.drop (_H.sIx xs.length 0 lo)).take (_H.sIx xs.length xs.length hi-_H.sIx xs.length 0 lo)
noncomputable abbrev TB:=T×Bool
noncomputable def iT(i:Int):TB:=(.v (.int i),true)
noncomputable def bT(b:Bool):TB:=(.v (.bl b),true)
noncomputable def lT(xs:List T):TB:=(.lst xs,T.lfs xs)
noncomputable def p9(x:T)(xs:List T)(lo hi:Option Int):Option TB:=match x with
 | .tup _=>if _H.sIx xs.length 0 lo=0/\_H.sIx xs.length xs.length hi=xs.length then none else some (.tup (Q5 xs lo hi),T.lfs (Q5 xs lo hi))
 |_=>some (lT (Q5 xs lo hi))
noncomputable def qr(M:Mem)(op:BOp)(x y:T):Option TB:=match x.isV,y.isV with
 |some (.int i),some (.int j)=>match op with
  | .add=>some (iT (i+j))
  | .sub=>some (iT (i-j))
  | .mul=>if QU i||QU j||(mid i&&mid j) then some (iT (i*j)) else none
  | .fdiv=>if 0<j/\(j<1073741824\/mid j=true) then some (iT (i / j)) else if j<0/\mid j=true then some (iT (i.fdiv j)) else none
  | .mod=>if 0<j then some (iT (i % j)) else if j<0 then some (iT (i.fmod j)) else none
  | .pow=>if 0<=j/\j<=1000/\i.natAbs<18446744073709551616 then some (iT (i ^ j.toNat)) else none
  | .band=>some (iT (PySem.Builtin.bitAnd i j))
 |none,some (.int k)=>match op with
  | .mul=>(x.mu M).bind λxs=>if 0<=k/\xs.length*k.toNat<=lim/\k<1000000 then some (lT (List.replicate k.toNat xs).flatten) else none
  |_=>none
 |none,none=>match op with
  | .add=>(match x,y with
   | .tup xs,.tup ys=>if xs≠[]/\xs.length+ys.length<=lim then some (.tup (xs++ys),T.lfs (xs++ys)) else none
   |x,y=>(x.mu M).bind λxs=>(y.mu M).bind λys=>if xs.length+ys.length<=lim then some (lT (xs++ys)) else none)
  |_=>none
 |_,_=>none
noncomputable def T.dct:T->Option (List (Int×V))
 | .ob (.dct kvs)=>some kvs
 |_=>none
noncomputable def inT(M:Mem)(x y:T):Option Bool:=match y.dct with
 |some kvs=>(match x with | .v (.int i)=>some (Q0 kvs i)|_=>none)
 |none=>x.isV.bind λa=>(y.its M).bind λts=>(qz ts).map λxs=>xs.any λz=>_L.eqV z a
noncomputable def zB(M:Mem)(op:COp)(x y:T):Option Bool:=match op with
 | .eq=>eqT M 4 x y
 | .ne=>(eqT M 4 x y).map (!·)
 | .inn=>inT M x y
 | .notin=>(inT M x y).map (!·)
 | .is=>match y.isV with|some .non=>some (match x.isV with|some .non=>true|_=>false)|some (.bl d)=>(match x.isV with|some (.bl c)=>some (c==d)|_=>none)|_=>none
 | .isnot=>match y.isV with|some .non=>some (match x.isV with|some .non=>false|_=>true)|some (.bl d)=>(match x.isV with|some (.bl c)=>some (!(c==d))|_=>none)|_=>none
 | .lt=>match x.isV,y.isV with|some (.int i),some (.int j)=>some (decide (i<j))|_,_=>none
 | .le=>match x.isV,y.isV with|some (.int i),some (.int j)=>some (decide (i<=j))|_,_=>none
 | .gt=>match x.isV,y.isV with|some (.int i),some (.int j)=>some (decide (j<i))|_,_=>none
 | .ge=>match x.isV,y.isV with|some (.int i),some (.int j)=>some (decide (j<=i))|_,_=>none
noncomputable def qAm(as:List T)(f:T->Option TB):Option TB:=match as with
 | [a]=>f a
 |_=>none
theorem jI{as:List T}{f:T->Option TB}{r:TB}(e:qAm as f=some r):∃a,as=[a]/\f a=some r:=by
 unfold qAm at e;split at e
 ·exact⟨_,rfl,e⟩
 ·cases e
noncomputable def twoT(as:List T)(f:Int->Int->Option TB):Option TB:=match as with
 | [a,b]=>(match a with
  | .v (.int i)=>(match b with | .v (.int j)=>f i j|_=>none)
  |_=>none)
 |_=>none
theorem twoT_inv{as:List T}{f:Int->Int->Option TB}{r:TB}(e:twoT as f=some r):∃i j,as=[.v (.int i),.v (.int j)]/\f i j=some r:=by
 unfold twoT at e;split at e
 ·split at e
  ·split at e
   ·exact⟨_,_,rfl,e⟩
   ·cases e
  ·cases e
 ·cases e
noncomputable def QC(M:Mem):BF->List T->Option TB
 | .len,as=>qAm as λa=>(a.its M).map λxs=>iT xs.length
 | .sum,as=>qAm as λa=>(a.lis M).bind λxs=>(ja xs).map λis=>iT is.sum
 | .max,as=>twoT as λi j=>some (iT (if j>i then j else i))
 | .min,as=>twoT as λi j=>some (iT (if j<i then j else i))
 | .list,as=>qAm as λa=>(a.its M).map lT
 | .int,as=>qAm as λa=>(match a with | .v (.int i)=>some (iT i) | .v (.bl b)=>some (iT (if b then 1 else 0))|_=>none)
 | .maxl,as=>qAm as λa=>(a.lis M).bind λxs=>(qW xs).bind λis=>(qB5 is).map iT
 | .bits,as=>qAm as λa=>(match a with | .v (.int i)=>some (iT ((PySem.Builtin.Int.intBits i:Nat):Int))|_=>none)
noncomputable def T.sel(g:Bool)(M:Mem)(t:T):Option (List T):=if g=true then (match t with | .tup xs=>some xs|_=>none) else t.lis M
noncomputable def ZY(g:Bool)(M:Mem)(x y:T):Option TB:=y.isV.bind λa=>(x.sel g M).bind λts=>(qz ts).bind λxs=>(xs.findIdx? λz=>_L.eqV z a).map λ(j:Nat)=>iT (j:Int)
noncomputable def T.isC(n:Nat):T->Bool | .cell k=>decide (k=n)|_=>false
noncomputable def JW:Mt->Nat->List T->Mem->Option (TB×Mem)
 | .clr,n,[],M=>(M[n]?).map λ_=>((.v .non,true),M.set n [])
 |_,_,_,_=>none
noncomputable def zj(M:Mem):T->Option String
 | .v .non=>some "NoneType"
 | .v (.bl _)=>some "bool"
 | .v (.int _)=>some "int"
 | .v (.str _)=>some "str"
 | .v _=>none
 | .tup _=>some "tuple"
 | .cell n=>(M[n]?).map λ_=>"list"
 | .ob (.dct _)=>some "dict"
 | .ob _=>none
 | .dt _ _=>none
 |_=>some "list"
noncomputable def T.fv:T->Option V
 | .v x=>some x
 |_=>none
noncomputable def T.tx:T->Option PySem.Str
 | .v (.str y)=>some y
 |_=>none
noncomputable def Jd(M:Mem)(x y:T):Option TB:=match y with
 | .v (.int i)=>(x.its M).bind λxs=>(ixN xs.length i).bind λj=>(xs[j]?).map λt=>(t,t.lf)
 |_=>none
noncomputable def p0:List Int->List T->Int->Option T
 |k::ks,t::ts,i=>if k=i then some t else p0 ks ts i
 |_,_,_=>none
noncomputable def T.dts:T->Option (List Int×List T)
 | .dt ks ts=>some (ks,ts)
 |_=>none
noncomputable def qCE(x y:T):Option TB:=match y with
 | .v (.int i)=>match x.dts with
  |some q=>(p0 q.1 q.2 i).map λt=>(t,t.lf)
  |none=>x.dct.bind λkvs=>(m4 kvs i).bind λv=>if flat v=true then some (.v v,true) else none
 |_=>none
noncomputable def qCx:List Nat->List T->TS->Option TS
 | [],[],σ=>some σ
 |i::is,x::xs,σ=>qCx is xs (σ.set i (some x))
 |_,_,_=>none
noncomputable def zd:Tg->T->TS->Option TS
 | .name i,t,σ=>some (σ.set i (some t))
 | .tup is,.tup ts,σ=>qCx is ts σ
 | .tup _,_,_=>none
noncomputable def zC(src:List (Option Nat))(σ:TS):TS:=src.map λo=>match o with|none=>none|some j=>(σ[j]?).join
noncomputable def qf(lo:Int)(n:Nat):List T:=(List.range n).map λ(i:Nat)=>.v (.int (lo+(i:Int)))
noncomputable def JU(M:Mem):T->Option (List T×jq)
 | .lst ts=>some (ts,[])
 | .fz ts=>some (ts,[])
 | .tup ts=>some (ts,[])
 | .cell n=>(M[n]?).map λts=>(ts,[(n,ts)])
 |_=>none
noncomputable def l7(M:Mem):T->Option (List T×jq)
 | .lst ts=>some (ts,[])
 | .fz ts=>some (ts,[])
 | .cell n=>(M[n]?).map λts=>(ts,[(n,ts)])
 |_=>none
noncomputable def qU(d:jq)(g:Tg)(c:TS->Mem->PR (Bool×Mem))(e:TS->Mem->PR (TB×Mem)):List T->List T->Bool->TS->Mem->PR (TB×Mem)
 | [],ys,f,_,M=>.ok ((.lst ys,f),M)
 |x::r,ys,f,σ,M=>match zd g x σ with
  |some σ1=>(c σ1 M).bind λ(b,M2)=>
   if b then (e σ1 M2).bind λ(y,M3)=>if ys.length<lim/\qY d M3=true then qU d g c e r (ys++[y.1]) (f&&y.2) σ1 M3 else .stuck
   else if qY d M2=true then qU d g c e r ys f σ1 M2 else .stuck
  |none=>.stuck
noncomputable def pB(r:PR (TB×Mem)):PR (Bool×Mem):=r.bind λ(x,M)=>match x.1 with | .v (.bl b)=>.ok (b,M)|_=>.stuck
section
variable (gl:List T)(P:Nat->List T->Mem->PR (TB×Mem))
mutual
noncomputable def pe:E->TS->Mem->PR (TB×Mem)
 | .var i=>λσ M=>match σ[i]? with|some (some t)=>.ok ((t,t.lf),M)|_=>.stuck
 | .cst v=>λ_ M=>if flat v then .ok ((.v v,true),M) else .stuck
 | .glob g=>λ_ M=>match gl[g]? with|some t=>.ok ((t,t.lf),M)|none=>.stuck
 | .bin op a b=>λσ M=>(pe a σ M).bind λ(x,M1)=>(pe b σ M1).bind λ(y,M2)=>(tH (qr M2 op x.1 y.1)).bind λr=>.ok (r,M2)
 | .neg a=>λσ M=>(pe a σ M).bind λ(x,M1)=>match x.1 with | .v (.int i)=>.ok (iT (-i),M1)|_=>.stuck
 | .cmp op a b=>λσ M=>(pe a σ M).bind λ(x,M1)=>(pe b σ M1).bind λ(y,M2)=>(tH (zB M2 op x.1 y.1)).bind λr=>.ok (bT r,M2)
 | .cmp2 o1 o2 a b c=>λσ M=>(pe a σ M).bind λ(x,M1)=>(pe b σ M1).bind λ(y,M2)=>(tH (zB M2 o1 x.1 y.1)).bind λr=>
  if r then (pe c σ M2).bind λ(z,M3)=>(tH (zB M3 o2 y.1 z.1)).bind λr=>.ok (bT r,M3) else .ok (bT false,M2)
 | .and a b=>λσ M=>(pB (pe a σ M)).bind λ(x,M1)=>if x then pe b σ M1 else .ok (bT false,M1)
 | .or a b=>λσ M=>(pB (pe a σ M)).bind λ(x,M1)=>if x then .ok (bT true,M1) else pe b σ M1
 | .not a=>λσ M=>(pB (pe a σ M)).bind λ(x,M1)=>.ok (bT (!x),M1)
 | .ite c a b=>λσ M=>(pB (pe c σ M)).bind λ(x,M1)=>if x then pe a σ M1 else pe b σ M1
 | .call f as=>λσ M=>(pes as σ M).bind λ(xs,M1)=>(P f (xs.map (·.1)) M1).nx
 | .blt f as=>λσ M=>(pes as σ M).bind λ(xs,M1)=>(tH (QC M1 f (xs.map (·.1)))).bind λr=>.ok (r,M1)
 | .isi a ts=>λσ M=>(pe a σ M).bind λ(x,M1)=>(tH (zj M1 x.1)).bind λt=>.ok (bT (ts.any (QW t)),M1)
 | .idx a b=>λσ M=>(pe a σ M).bind λ(x,M1)=>(pe b σ M1).bind λ(y,M2)=>(tH (Jd M2 x.1 y.1)).bind λr=>.ok (r,M2)
 | .index a b=>λσ M=>(pe a σ M).bind λ(x,M1)=>(tH (x.1.sel a.isGlob M1)).bind λ_=>(pe b σ M1).bind λ(y,M2)=>(tH (ZY a.isGlob M2 x.1 y.1)).bind λr=>.ok (r,M2)
 | .sl a lo hi=>λσ M=>(pe a σ M).bind λ(x,M1)=>(pes lo σ M1).bind λ(l,M2)=>(pes hi σ M2).bind λ(u,M3)=>
  (tH (x.1.its M3)).bind λxs=>(tH (qW (l.map (·.1)))).bind λl=>(tH (qW (u.map (·.1)))).bind λu=>(tH (p9 x.1 xs l.head? u.head?)).bind λr=>.ok (r,M3)
 | .lst as=>λσ M=>(pes as σ M).bind λ(xs,M1)=>if xs.length<=lim then .ok ((.lst (xs.map (·.1)),xs.all (·.2)),M1) else .stuck
 | .tup as=>λσ M=>(pes as σ M).bind λ(xs,M1)=>if xs.length<=lim then .ok ((.tup (xs.map (·.1)),xs.all (·.2)),M1) else .stuck
 | .comp it src g c e=>λσ M=>(pei it σ M).bind λ(s,M1)=>qU s.2 g (pec c) (pe e) s.1 [] true (zC src σ) M1
 | .app a b=>λσ M=>(pe a σ M).bind λ(x,M1)=>match x.1 with
  | .cell n=>(pe b σ M1).bind λ(y,M2)=>match M2[n]? with
   |some xs=>if xs.length<lim then .ok ((.v .non,true),M2.set n (xs++[y.1])) else .stuck
   |none=>.stuck
  |_=>.stuck
 | .sset a=>λσ M=>(pe a σ M).bind λ(x,M1)=>match (x.1.lis M1).bind qW with|some is=>if is.length<1000/\(uniq is).length<64 then .ok ((.lst ((QJ (uniq is)).map λi=>.v (.int i)),true),M1) else .stuck|none=>.stuck
 | .nset a=>λσ M=>(pe a σ M).bind λ(x,M1)=>match (x.1.lis M1).bind qW with|some is=>if is.length<1000 then .ok ((.v (.int ((y7 is:Nat):Int)),true),M1) else .stuck|none=>.stuck
 | .dix a b=>λσ M=>(pe a σ M).bind λ(x,M1)=>(pe b σ M1).bind λ(y,M2)=>(tH (qCE x.1 y.1)).bind λr=>.ok (r,M2)
 | .lrng a=>λσ M=>(pe a σ M).bind λ(x,M1)=>match x.1 with | .v (.int j)=>if -1000000<=j/\j<=100000 then .ok ((.lst (qf 0 j.toNat),true),M1) else .stuck|_=>.stuck
 | .dnew=>λ_ M=>.ok ((.ob (.dct []),true),M)
 | .meth m a as=>λσ M=>(pe a σ M).bind λ(x,M1)=>match x.1 with
  | .cell n=>(pes as σ M1).bind λ(ys,M2)=>tH (JW m n (ys.map (·.1)) M2)
  |_=>.stuck
noncomputable def pes:Es->TS->Mem->PR (List TB×Mem)
 | .nil=>λ_ M=>.ok ([],M)
 | .cons a as=>λσ M=>(pe a σ M).bind λ(x,M1)=>(pes as σ M1).bind λ(xs,M2)=>.ok (x::xs,M2)
noncomputable def pec:Es->TS->Mem->PR (Bool×Mem)
 | .nil=>λ_ M=>.ok (true,M)
 | .cons a _=>λσ M=>pB (pe a σ M)
noncomputable def pei:Itr->TS->Mem->PR ((List T×jq)×Mem)
 | .list a=>λσ M=>(pe a σ M).bind λ(x,M1)=>(tH (JU M1 x.1)).bind λs=>.ok (s,M1)
 | .rng1 a=>λσ M=>(pe a σ M).bind λ(x,M1)=>match x.1 with | .v (.int j)=>if -1000000<=j/\j<=1000000 then .ok ((qf 0 j.toNat,[]),M1) else .stuck|_=>.stuck
 | .rng2 a b=>λσ M=>(pe a σ M).bind λ(x,M1)=>(pe b σ M1).bind λ(y,M2)=>match x.1,y.1 with
  | .v (.int i),.v (.int j)=>if (-1000000<=i/\i<=1000000)/\-1000000<=j/\j<=1000000 then .ok ((qf i (j-i).toNat,[]),M2) else .stuck
  |_,_=>.stuck
 | .zip a b=>λσ M=>(pe a σ M).bind λ(x,M1)=>(pe b σ M1).bind λ(y,M2)=>(tH (l7 M2 x.1)).bind λs=>(tH (l7 M2 y.1)).bind λt=>
  .ok ((List.zipWith (λa b=>T.tup [a,b]) s.1 t.1,s.2++t.2),M2)
end
inductive PO|nx(σ:TS)|rt(t:TB)|bk(σ:TS)|ct(σ:TS)
noncomputable abbrev RSt:=PR (PO×Mem)
noncomputable def zN(d:jq)(g:Tg)(b:TS->Mem->RSt):List T->TS->Mem->RSt
 | [],σ,M=>.ok (.nx σ,M)
 |x::r,σ,M=>match zd g x σ with
  |some σ1=>(b σ1 M).bind λ(o,M2)=>match o with
   | .nx σ2=>if qY d M2=true then zN d g b r σ2 M2 else .stuck
   | .ct σ2=>if qY d M2=true then zN d g b r σ2 M2 else .stuck
   | .bk σ2=>.ok (.nx σ2,M2)
   | .rt t=>.ok (.rt t,M2)
  |none=>.stuck
noncomputable def h8(d:jq)(x:Nat)(fk fv:TS->Mem->PR (TB×Mem)):List T->List Int->List T->TS->Mem->PR ((List Int×List T×TS)×Mem)
 | [],ks,ys,σ,M=>.ok ((ks,ys,σ),M)
 |t::r,ks,ys,σ,M=>(fv (σ.set x (some t)) M).nx.bind λ(y,M1)=>(fk (σ.set x (some t)) M1).nx.bind λ(z,M2)=>match z.1 with
  | .v (.int k)=>if qY d M2=true/\ks.length+1<lim/\k∉ks/\y.1.isV=none then h8 d x fk fv r (ks++[k]) (ys++[y.1]) (σ.set x (some t)) M2 else .stuck
  |_=>.stuck
mutual
noncomputable def thaw(n:Nat):T->T×Mem
 | .lst ts=>let r:=jy n ts;(.cell (n+r.2.length),r.2++[r.1])
 | .tup ts=>let r:=jy n ts;(.tup r.1,r.2)
 |t=>(t,[])
noncomputable def jy(n:Nat):List T->List T×Mem
 | []=>([],[])
 |t::ts=>let r:=thaw n t;let q:=jy (n+r.2.length) ts;(r.1::q.1,r.2++q.2)
end
noncomputable def qCB:E->Bool
 | .bin .add _ _=>true
 | .lst _=>true
 |_=>false
variable (C:List Nat)
mutual
noncomputable def px:S->TS->Mem->RSt
 | .asg g e=>λσ M=>(pe gl P e σ M).bind λ(x,M1)=>match g with
  | .name i=>if C.contains i&&x.2 then .ok (.nx (σ.set i (some (thaw M1.length x.1).1)),M1++(thaw M1.length x.1).2) else if C.contains (i+1000)&&qCB e then (match x.1 with | .lst ts=>.ok (.nx (σ.set i (some (.cell M1.length))),M1++[ts])|_=>.stuck) else .ok (.nx (σ.set i (some x.1)),M1)
  |g=>match zd g x.1 σ with|some σ1=>.ok (.nx σ1,M1)|none=>.stuck
 | .put o i v=>λσ M=>(pe gl P v σ M).bind λ(x,M1)=>(pe gl P o σ M1).bind λ(p,M2)=>(pe gl P i σ M2).bind λ(k,M3)=>match p.1,k.1 with
  | .cell n,.v (.int k)=>match M3[n]? with
   |some xs=>match ixN xs.length k with|some j=>.ok (.nx σ,M3.set n (xs.set j x.1))|none=>.stuck
   |none=>.stuck
  |_,_=>.stuck
 | .expr e=>λσ M=>(pe gl P e σ M).bind λ(_,M1)=>.ok (.nx σ,M1)
 | .ret e=>λσ M=>(pe gl P e σ M).bind λ(x,M1)=>.ok (.rt x,M1)
 | .ifs c t u=>λσ M=>(pB (pe gl P c σ M)).bind λ(x,M1)=>if x then pxs t σ M1 else pxs u σ M1
 | .for_ g it b=>λσ M=>(pei gl P it σ M).bind λ(s,M1)=>zN s.2 g (pxs b) s.1 σ M1
 | .stop=>λ_ _=>.stuck
 | .dlp u x e k v=>λσ M=>if u=x\/σ.length<=u\/σ.length<=x then .stuck else (pei gl P (.list e) (σ.set u none) M).bind λ(s,M1)=>(h8 s.2 x (pe gl P k) (pe gl P v) s.1 [] [] (σ.set u none) M1).bind λ(q,M2)=>if q.2.1=[] then .stuck else .ok (.nx (q.2.2.set u (some (.dt q.1 q.2.1))),M2)
noncomputable def pxs:Ss->TS->Mem->RSt
 | .nil=>λσ M=>.ok (.nx σ,M)
 | .cons s r=>λσ M=>(px s σ M).bind λ(o,M1)=>match o with
  | .nx σ1=>pxs r σ1 M1
  |o=>.ok (o,M1)
end
end
noncomputable def qM(M:Mem)(n0:Nat):Nat->T->Option T
 | 0,t=>if t.und n0 then some t else none
 |d+1,t=>if t.und n0 then some t else match t with
  | .lst ts=>(ts.mapM (qM M n0 d)).map .lst
  | .tup ts=>(ts.mapM (qM M n0 d)).map .tup
  | .cell n=>(M[n]?).bind λts=>(ts.mapM (qM M n0 d)).map .lst
  |_=>none
noncomputable def jM(M:Mem)(n0:Nat):Nat->T->Option (List Nat)
 | 0,t=>if t.lf then some [] else none
 |d+1,t=>if t.lf then some [] else match t with
  | .tup ts=>(ts.mapM (jM M n0 d)).map List.flatten
  | .cell n=>if n0<=n then (M[n]?).bind λts=>(ts.mapM (jM M n0 d)).map λl=>l.flatten++[n] else none
  |_=>none
noncomputable def frR(M:Mem)(n0:Nat)(t:T):Bool:=match jM M n0 6 t with|some l=>decide l.Nodup|none=>false
noncomputable def finish(n0:Nat)(x:TB)(M:Mem):PR (TB×Mem):=
 if M.length=n0 then .ok (x,M) else if (M.take n0).all (T.unds n0) then (tH (qM M n0 6 x.1)).bind λt=>.ok ((t,x.2||frR M n0 x.1),M.take n0) else .stuck
noncomputable def Js(n0:Nat):RSt->PR (TB×Mem)
 | .ok (.nx _,M1)=>finish n0 (.v .non,true) M1
 | .ok (.rt t,M1)=>finish n0 t M1
 | .ok (_,_)=>.stuck
 | .exc c M1=>if M1.length=n0 then .exc c M1 else if (M1.take n0).all (T.unds n0) then .exc c (M1.take n0) else .stuck
 | .stuck=>.stuck
noncomputable def Pk(gl:List T)(tb:List Fn)(Cs:List (List Nat)):Nat->Nat->List T->Mem->PR (TB×Mem)
 | 0,_,_,_=>.stuck
 |k+1,f,vs,M=>match tb[f]? with
  |some d=>if vs.length=d.npar/\d.npar<=d.nslot then Js M.length (pxs gl (Pk gl tb Cs k) (Cs.getD f []) d.body (vs.map some++List.replicate (d.nslot-d.npar) none) M)
   else .stuck
  |none=>.stuck
def QL{α β:Type}(R:α->β->Prop):List α->List β->Prop
 | [],vs=>vs=[]
 |t::ts,vs=>∃v vs',vs=v::vs'/\R t v/\QL R ts vs'
section
variable{α β:Type}{R:α->β->Prop}
theorem qC:∀{xs:List α}{ys:List β},QL R xs ys->xs.length=ys.length
 | [],_,h=>by cases h;rfl
 |x::xs,_,⟨v,vs,rfl,_,h⟩=>by simp[qC h]
theorem zE:∀{xs:List α}{ys:List β}{i:Nat}{x:α},QL R xs ys->xs[i]?=some x->∃y,ys[i]?=some y/\R x y
 | [],_,i,x,h,e=>by simp at e
 |x::xs,_,0,x',⟨v,vs,rfl,r,h⟩,e=>⟨v,rfl,by simp at e;subst e;exact r⟩
 |x::xs,_,i+1,x',⟨v,vs,rfl,r,h⟩,e=>by
  obtain⟨y,e1,r1⟩:=zE (i:=i) h (by simpa using e);exact⟨y,by simpa using e1,r1⟩
theorem zD:∀{xs:List α}{ys:List β}{xs':List α}{ys':List β},QL R xs ys->QL R xs' ys'->QL R (xs++xs') (ys++ys')
 | [],_,_,_,h,k=>by cases h;exact k
 |x::xs,_,_,_,⟨v,vs,rfl,r,h⟩,k=>⟨v,vs++_,rfl,r,zD h k⟩
theorem jn:∀(n:Nat){xs:List α}{ys:List β},QL R xs ys->QL R (xs.take n) (ys.take n)
 | 0,_,_,_=>by simp[QL]
 |n+1,[],_,h=>by cases h;simp[QL]
 |n+1,x::xs,_,⟨v,vs,rfl,r,h⟩=>⟨v,vs.take n,rfl,r,jn n h⟩
theorem A7:∀(n:Nat){xs:List α}{ys:List β},QL R xs ys->QL R (xs.drop n) (ys.drop n)
 | 0,_,_,h=>h
 |n+1,[],_,h=>by cases h;simp[QL]
 |n+1,x::xs,_,⟨v,vs,rfl,r,h⟩=>A7 n h
theorem qt:∀{xs:List α}{ys:List β}(j:Nat){x:α}{y:β},QL R xs ys->R x y->QL R (xs.set j x) (ys.set j y)
 | [],_,j,_,_,h,r=>by cases h;simp[QL]
 |x::xs,_,0,_,_,⟨v,vs,rfl,r0,h⟩,r=>⟨_,vs,rfl,r,h⟩
 |x::xs,_,j+1,_,_,⟨v,vs,rfl,r0,h⟩,r=>⟨v,vs.set j _,rfl,r0,qt j h r⟩
theorem o0(n:Nat){xs:List α}{ys:List β}(h:QL R xs ys):QL R (List.replicate n xs).flatten (List.replicate n ys).flatten:=by
 induction n with
 |zero=>simp[QL]
 |succ n ih=>simp only[List.replicate_succ,List.flatten_cons];exact zD h ih
theorem Je{S:α->β->Prop}(f:∀x y,R x y->S x y):∀{xs:List α}{ys:List β},QL R xs ys->QL S xs ys
 | [],_,h=>h
 |x::xs,_,⟨v,vs,rfl,r,h⟩=>⟨v,vs,rfl,f _ _ r,Je f h⟩
end
theorem T1{α β:Type}:∀{ks js:List α}{vs us:List β},ks.length=vs.length->js.length=us.length->ks.zip vs=js.zip us->ks=js/\vs=us
 | [],[],[],[],_,_,_=>⟨rfl,rfl⟩
 | [],_::_,[],_::_,_,_,e=>by cases e
 |_::_,[],_::_,[],_,_,e=>by cases e
 |k::ks,j::js,v::vs,u::us,h1,h2,e=>by
  rw[List.zip_cons_cons,List.zip_cons_cons]at e;injection e with e1 e2;injection e1 with e3 e4;obtain⟨rfl,rfl⟩:=T1 (by simpa using h1) (by simpa using h2) e2;rw[e3,e4];exact⟨rfl,rfl⟩
theorem qAb{ks:List Int}:∀{vs:List V},ks.length=vs.length->(vs.any λv=>!flat v)=true->(Ob.dct (ks.zip vs)).fl=true->False:=by
 induction ks with
 |nil=>intro vs h1 h2 _;cases vs with
  |nil=>cases h2
  |cons=>cases h1
 |cons k ks ih=>
  intro vs h1 h2 h3;cases vs with
  |nil=>cases h1
  |cons v vs=>
   rw[List.any_cons,va]at h2;have h3:(flat v&&(ks.zip vs).all λp=>flat p.2)=true:=h3;rw[wE]at h3;rcases h2 with h2|h2
   ·rw[h3.1]at h2;cases h2
   ·exact ih (by simpa using h1) h2 h3.2
mutual
def Rep(A X:List Nat)(h:AH):T->V->Prop
 | .v x,w=>w=x/\flat x=true
 | .cell n,w=>∃a:Nat,A[n]?=some a/\w=.ref a
 | .fz ts,w=>∃a vs,w=.ref a/\a∉X/\h[a]?=some (.lst true vs)/\qJ A X h ts vs
 | .lst ts,w=>∃a vs,w=.ref a/\a∉X/\h[a]?=some (.lst false vs)/\qJ A X h ts vs
 | .tup ts,w=>∃a vs,w=.ref a/\a∉X/\h[a]?=some (.tup vs)/\qJ A X h ts vs
 | .ob o,w=>∃a,w=.ref a/\a∉X/\h[a]?=some (.ob o)/\o.fl=true
 | .dt ks ts,w=>∃a vs,w=.ref a/\a∉X/\h[a]?=some (.ob (.dct (ks.zip vs)))/\(ks.length=vs.length/\(vs.any λv=>!flat v)=true)/\qJ A X h ts vs
def qJ(A X:List Nat)(h:AH):List T->List V->Prop
 | [],vs=>vs=[]
 |t::ts,vs=>∃v vs',vs=v::vs'/\Rep A X h t v/\qJ A X h ts vs'
end
theorem reps_iff{A X:List Nat}{h:AH}:∀{ts:List T}{vs:List V},qJ A X h ts vs↔QL (Rep A X h) ts vs
 | [],vs=>by unfold qJ QL;rfl
 |t::ts,vs=>by
  unfold qJ QL;constructor
  ·rintro⟨v,vs',e,r,k⟩;exact⟨v,vs',e,r,reps_iff.mp k⟩
  ·rintro⟨v,vs',e,r,k⟩;exact⟨v,vs',e,r,reps_iff.mpr k⟩
mutual
def FP(X:List Nat)(h:AH):T->V->List Nat->Prop
 | .v x,w,fp=>(w=x/\flat x=true)/\fp=[]
 | .lst ts,w,fp=>∃a vs f,w=.ref a/\a∉X/\h[a]?=some (.lst false vs)/\FPs X h ts vs f/\fp=f++[a]
 | .tup ts,w,fp=>∃a vs,w=.ref a/\a∉X/\h[a]?=some (.tup vs)/\FPs X h ts vs fp
 | .ob o,w,fp=>(∃a,w=.ref a/\a∉X/\h[a]?=some (.ob o)/\o.fl=true)/\fp=[]
 | .dt _ _,_,_=>False
 | .fz _,_,_=>False
 | .cell _,_,_=>False
def FPs(X:List Nat)(h:AH):List T->List V->List Nat->Prop
 | [],vs,fp=>vs=[]/\fp=[]
 |t::ts,vs,fp=>∃v vs' f1 f2,vs=v::vs'/\FP X h t v f1/\FPs X h ts vs' f2/\fp=f1++f2
end
mutual
theorem qm{A X A' X':List Nat}{h h':AH}(hc:∀(n:Nat) a,A[n]?=some a->A'[n]?=some a)(hn:∀a o,a∉X->h[a]?=some o->a∉X'/\h'[a]?=some o):∀(t:T){w:V},Rep A X h t w->Rep A' X' h' t w
 | .v x,w,r=>by unfold Rep at r ⊢;exact r
 | .cell n,w,r=>by unfold Rep at r ⊢;obtain⟨a,e,q⟩:=r;exact⟨a,hc _ _ e,q⟩
 | .fz ts,w,r=>by unfold Rep at r ⊢;obtain⟨a,vs,e,q1,q2,q3⟩:=r;exact⟨a,vs,e,(hn _ _ q1 q2).1,(hn _ _ q1 q2).2,qH hc hn ts q3⟩
 | .lst ts,w,r=>by unfold Rep at r ⊢;obtain⟨a,vs,e,q1,q2,q3⟩:=r;exact⟨a,vs,e,(hn _ _ q1 q2).1,(hn _ _ q1 q2).2,qH hc hn ts q3⟩
 | .tup ts,w,r=>by unfold Rep at r ⊢;obtain⟨a,vs,e,q1,q2,q3⟩:=r;exact⟨a,vs,e,(hn _ _ q1 q2).1,(hn _ _ q1 q2).2,qH hc hn ts q3⟩
 | .ob o,w,r=>by unfold Rep at r ⊢;obtain⟨a,e,q1,q2,q3⟩:=r;exact⟨a,e,(hn _ _ q1 q2).1,(hn _ _ q1 q2).2,q3⟩
 | .dt ks ts,w,r=>by unfold Rep at r ⊢;obtain⟨a,vs,e,q1,q2,q4,q3⟩:=r;exact⟨a,vs,e,(hn _ _ q1 q2).1,(hn _ _ q1 q2).2,q4,qH hc hn ts q3⟩
theorem qH{A X A' X':List Nat}{h h':AH}(hc:∀(n:Nat) a,A[n]?=some a->A'[n]?=some a)(hn:∀a o,a∉X->h[a]?=some o->a∉X'/\h'[a]?=some o):∀(ts:List T){ws:List V},qJ A X h ts ws->qJ A' X' h' ts ws
 | [],w,r=>by unfold qJ at r ⊢;exact r
 |t::ts,w,r=>by unfold qJ at r ⊢;obtain⟨v,vs,e,q1,q2⟩:=r;exact⟨v,vs,e,qm hc hn t q1,qH hc hn ts q2⟩
end
mutual
theorem Zj{X X':List Nat}{h h':AH}(hn:∀a o,a∉X->h[a]?=some o->a∉X'/\h'[a]?=some o):∀(t:T){w:V}{fp:List Nat},FP X h t w fp->FP X' h' t w fp
 | .v x,w,_,r=>by unfold FP at r ⊢;exact r
 | .cell n,w,_,r=>by unfold FP at r;exact r.elim
 | .fz ts,w,_,r=>by unfold FP at r;exact r.elim
 | .lst ts,w,_,r=>by unfold FP at r ⊢;obtain⟨a,vs,f,e,q1,q2,q3,q4⟩:=r;exact⟨a,vs,f,e,(hn _ _ q1 q2).1,(hn _ _ q1 q2).2,zZ hn ts q3,q4⟩
 | .tup ts,w,_,r=>by unfold FP at r ⊢;obtain⟨a,vs,e,q1,q2,q3⟩:=r;exact⟨a,vs,e,(hn _ _ q1 q2).1,(hn _ _ q1 q2).2,zZ hn ts q3⟩
 | .ob o,w,_,r=>by unfold FP at r ⊢;obtain⟨⟨a,e,q1,q2,q4⟩,q3⟩:=r;exact⟨⟨a,e,(hn _ _ q1 q2).1,(hn _ _ q1 q2).2,q4⟩,q3⟩
 | .dt _ _,w,_,r=>by unfold FP at r;exact r.elim
theorem zZ{X X':List Nat}{h h':AH}(hn:∀a o,a∉X->h[a]?=some o->a∉X'/\h'[a]?=some o):∀(ts:List T){ws:List V}{fp:List Nat},FPs X h ts ws fp->FPs X' h' ts ws fp
 | [],w,_,r=>by unfold FPs at r ⊢;exact r
 |t::ts,w,_,r=>by unfold FPs at r ⊢;obtain⟨v,vs,f1,f2,e,q1,q2,q3⟩:=r;exact⟨v,vs,f1,f2,e,Zj hn t q1,zZ hn ts q2,q3⟩
end
mutual
theorem qDr{A X:List Nat}{h:AH}:∀(t:T){w:V}{fp:List Nat},FP X h t w fp->Rep A X h t w
 | .v x,w,_,r=>by unfold FP at r;unfold Rep;exact r.1
 | .cell n,w,_,r=>by unfold FP at r;exact r.elim
 | .fz ts,w,_,r=>by unfold FP at r;exact r.elim
 | .lst ts,w,_,r=>by unfold FP at r;unfold Rep;obtain⟨a,vs,f,e,q1,q2,q3,q4⟩:=r;exact⟨a,vs,e,q1,q2,D1 ts q3⟩
 | .tup ts,w,_,r=>by unfold FP at r;unfold Rep;obtain⟨a,vs,e,q1,q2,q3⟩:=r;exact⟨a,vs,e,q1,q2,D1 ts q3⟩
 | .ob o,w,_,r=>by unfold FP at r;unfold Rep;exact r.1
 | .dt _ _,w,_,r=>by unfold FP at r;exact r.elim
theorem D1{A X:List Nat}{h:AH}:∀(ts:List T){ws:List V}{fp:List Nat},FPs X h ts ws fp->qJ A X h ts ws
 | [],w,_,r=>by unfold FPs at r;unfold qJ;exact r.1
 |t::ts,w,_,r=>by unfold FPs at r;unfold qJ;obtain⟨v,vs,f1,f2,e,q1,q2,q3⟩:=r;exact⟨v,vs,e,qDr t q1,D1 ts q2⟩
end
mutual
theorem qAj{X:List Nat}{h:AH}(n:Nat):∀(t:T){w:V}{fp:List Nat},FP X h t w fp->t.und n=true
 | .v x,w,_,r=>rfl
 | .cell n,w,_,r=>by unfold FP at r;exact r.elim
 | .fz ts,w,_,r=>by unfold FP at r;exact r.elim
 | .lst ts,w,_,r=>by unfold FP at r;obtain⟨a,vs,f,e,q1,q2,q3,q4⟩:=r;exact F1 n ts q3
 | .tup ts,w,_,r=>by unfold FP at r;obtain⟨a,vs,e,q1,q2,q3⟩:=r;exact F1 n ts q3
 | .ob o,w,_,r=>rfl
 | .dt _ _,w,_,r=>by unfold FP at r;exact r.elim
theorem F1{X:List Nat}{h:AH}(n:Nat):∀(ts:List T){ws:List V}{fp:List Nat},FPs X h ts ws fp->T.unds n ts=true
 | [],w,_,r=>rfl
 |t::ts,w,_,r=>by unfold FPs at r;obtain⟨v,vs,f1,f2,e,q1,q2,q3⟩:=r;unfold T.unds;rw[qAj n t q1,F1 n ts q2];rfl
end
mutual
theorem J7{X:List Nat}{h:AH}:∀(t:T){w:V}{fp:List Nat},FP X h t w fp->∀a∈fp,a∉X/\∃vs,h[a]?=some (.lst false vs)
 | .v x,w,_,r=>by unfold FP at r;obtain⟨_,rfl⟩:=r;intro a ha;simp at ha
 | .cell n,w,_,r=>by unfold FP at r;exact r.elim
 | .fz ts,w,_,r=>by unfold FP at r;exact r.elim
 | .lst ts,w,_,r=>by
  unfold FP at r;obtain⟨a,vs,f,e,q1,q2,q3,rfl⟩:=r;intro b hb;rcases wL.mp hb with hb|hb
  ·exact QA ts q3 b hb
  ·simp at hb;subst hb;exact⟨q1,vs,q2⟩
 | .tup ts,w,_,r=>by unfold FP at r;obtain⟨a,vs,e,q1,q2,q3⟩:=r;exact QA ts q3
 | .ob o,w,_,r=>by unfold FP at r;obtain⟨_,rfl⟩:=r;intro a ha;simp at ha
 | .dt _ _,w,_,r=>by unfold FP at r;exact r.elim
theorem QA{X:List Nat}{h:AH}:∀(ts:List T){ws:List V}{fp:List Nat},FPs X h ts ws fp->∀a∈fp,a∉X/\∃vs,h[a]?=some (.lst false vs)
 | [],w,_,r=>by unfold FPs at r;obtain⟨_,rfl⟩:=r;intro a ha;simp at ha
 |t::ts,w,_,r=>by
  unfold FPs at r;obtain⟨v,vs,f1,f2,e,q1,q2,rfl⟩:=r;intro b hb;rcases wL.mp hb with hb|hb
  ·exact J7 t q1 b hb
  ·exact QA ts q2 b hb
end
mutual
theorem qBu{A X:List Nat}{h:AH}:∀(t:T){w:V},Rep A X h t w->t.lf=true->FP X h t w []
 | .v x,w,r,l=>by unfold Rep at r;unfold FP;exact⟨r,rfl⟩
 | .cell n,w,r,l=>by unfold T.lf at l;cases l
 | .fz ts,w,r,l=>by unfold T.lf at l;cases l
 | .lst ts,w,r,l=>by unfold T.lf at l;cases l
 | .tup ts,w,r,l=>by unfold Rep at r;unfold FP;obtain⟨a,vs,e,q1,q2,q3⟩:=r;exact⟨a,vs,e,q1,q2,Y1 ts q3 (by unfold T.lf at l;exact l)⟩
 | .ob o,w,r,l=>by unfold Rep at r;unfold FP;exact⟨r,rfl⟩
 | .dt _ _,w,r,l=>by unfold T.lf at l;cases l
theorem Y1{A X:List Nat}{h:AH}:∀(ts:List T){ws:List V},qJ A X h ts ws->T.lfs ts=true->FPs X h ts ws []
 | [],w,r,l=>by unfold qJ at r;unfold FPs;exact⟨r,rfl⟩
 |t::ts,w,r,l=>by
  unfold qJ at r;unfold FPs;obtain⟨v,vs,e,q1,q2⟩:=r;unfold T.lfs at l;simp only[wE]at l;exact⟨v,vs,[],[],e,qBu t q1 l.1,Y1 ts q2 l.2,rfl⟩
end
mutual
theorem U3{A X A1 X1:List Nat}{h:AH}{n0:Nat}(hc:∀n,n<n0->A1[n]?=A[n]?)(hX:∀a∈X,a∈X1):∀(t:T){w:V},Rep A1 X1 h t w->t.und n0=true->Rep A X h t w
 | .v x,w,r,u=>by unfold Rep at r ⊢;exact r
 | .cell n,w,r,u=>by
  unfold Rep at r ⊢;obtain⟨a,e,q⟩:=r;unfold T.und at u;exact⟨a,(hc n (by simpa using u)).symm.trans e,q⟩
 | .fz ts,w,r,u=>by unfold Rep at r ⊢;obtain⟨a,vs,e,q1,q2,q3⟩:=r;exact⟨a,vs,e,λz=>q1 (hX _ z),q2,jH hc hX ts q3 (by unfold T.und at u;exact u)⟩
 | .lst ts,w,r,u=>by unfold Rep at r ⊢;obtain⟨a,vs,e,q1,q2,q3⟩:=r;exact⟨a,vs,e,λz=>q1 (hX _ z),q2,jH hc hX ts q3 (by unfold T.und at u;exact u)⟩
 | .tup ts,w,r,u=>by unfold Rep at r ⊢;obtain⟨a,vs,e,q1,q2,q3⟩:=r;exact⟨a,vs,e,λz=>q1 (hX _ z),q2,jH hc hX ts q3 (by unfold T.und at u;exact u)⟩
 | .ob o,w,r,u=>by unfold Rep at r ⊢;obtain⟨a,e,q1,q2,q3⟩:=r;exact⟨a,e,λz=>q1 (hX _ z),q2,q3⟩
 | .dt ks ts,w,r,u=>by unfold Rep at r ⊢;obtain⟨a,vs,e,q1,q2,q4,q3⟩:=r;exact⟨a,vs,e,λz=>q1 (hX _ z),q2,q4,jH hc hX ts q3 (by unfold T.und at u;exact u)⟩
theorem jH{A X A1 X1:List Nat}{h:AH}{n0:Nat}(hc:∀n,n<n0->A1[n]?=A[n]?)(hX:∀a∈X,a∈X1):∀(ts:List T){ws:List V},qJ A1 X1 h ts ws->T.unds n0 ts=true->qJ A X h ts ws
 | [],w,r,u=>by unfold qJ at r ⊢;exact r
 |t::ts,w,r,u=>by
  unfold qJ at r ⊢;obtain⟨v,vs,e,q1,q2⟩:=r;unfold T.unds at u;simp only[wE]at u;exact⟨v,vs,e,U3 hc hX t q1 u.1,jH hc hX ts q2 u.2⟩
end
theorem zY{x:V}{a:Nat}(h:flat x=true)(e:V.ref a=x):False:=by subst e;cases h
mutual
theorem S0{A X:List Nat}{h:AH}(nd:A.Nodup)(hs:∀a∈A,a∈X):∀(s t:T){w:V},Rep A X h s w->Rep A X h t w->s=t
 | .v x,t,w,r,q=>by
  unfold Rep at r;obtain⟨rfl,f⟩:=r;cases t with
  |v y=>unfold Rep at q;obtain⟨rfl,_⟩:=q;rfl
  |cell n=>unfold Rep at q;obtain⟨a,_,e⟩:=q;subst e;cases f
  |fz ts=>unfold Rep at q;obtain⟨a,vs,e,_⟩:=q;subst e;cases f
  |lst ts=>unfold Rep at q;obtain⟨a,vs,e,_⟩:=q;subst e;cases f
  |tup ts=>unfold Rep at q;obtain⟨a,vs,e,_⟩:=q;subst e;cases f
  |ob o=>unfold Rep at q;obtain⟨a,e,_⟩:=q;subst e;cases f
  |dt ks ts=>unfold Rep at q;obtain⟨a,vs,e,_⟩:=q;subst e;cases f
 | .cell n,t,w,r,q=>by
  unfold Rep at r;obtain⟨a,ea,rfl⟩:=r;have am:a∈X:=hs _ (wS ea);cases t with
  |v y=>unfold Rep at q;obtain⟨e,f⟩:=q;exact(zY f e).elim
  |cell m=>
   unfold Rep at q;obtain⟨b,eb,e⟩:=q;cases e;have:n=m:=(List.getElem?_inj (by exact(wB.mp ea).1) nd).mp (ea.trans eb.symm);rw[this]
  |fz ts=>unfold Rep at q;obtain⟨b,vs,e,k,_⟩:=q;cases e;exact(k am).elim
  |lst ts=>unfold Rep at q;obtain⟨b,vs,e,k,_⟩:=q;cases e;exact(k am).elim
  |tup ts=>unfold Rep at q;obtain⟨b,vs,e,k,_⟩:=q;cases e;exact(k am).elim
  |ob o=>unfold Rep at q;obtain⟨b,e,k,_⟩:=q;cases e;exact(k am).elim
  |dt ks ts=>unfold Rep at q;obtain⟨b,vs,e,k,_⟩:=q;cases e;exact(k am).elim
 | .fz ss,t,w,r,q=>by
  unfold Rep at r;obtain⟨a,vs,rfl,k1,k2,k3⟩:=r;cases t with
  |v y=>unfold Rep at q;obtain⟨e,f⟩:=q;exact(zY f e).elim
  |cell m=>unfold Rep at q;obtain⟨b,eb,e⟩:=q;cases e;exact(k1 (hs _ (wS eb))).elim
  |fz ts=>unfold Rep at q;obtain⟨b,vs',e,z1,z2,z3⟩:=q;cases e;rw[k2]at z2;cases z2;rw[ji nd hs ss ts k3 z3]
  |lst ts=>unfold Rep at q;obtain⟨b,vs',e,z1,z2,z3⟩:=q;cases e;rw[k2]at z2;cases z2
  |tup ts=>unfold Rep at q;obtain⟨b,vs',e,z1,z2,z3⟩:=q;cases e;rw[k2]at z2;cases z2
  |ob o=>unfold Rep at q;obtain⟨b,e,z1,z2,_⟩:=q;cases e;rw[k2]at z2;cases z2
  |dt ks ts=>unfold Rep at q;obtain⟨b,vs',e,z1,z2,z3⟩:=q;cases e;rw[k2]at z2;cases z2
 | .lst ss,t,w,r,q=>by
  unfold Rep at r;obtain⟨a,vs,rfl,k1,k2,k3⟩:=r;cases t with
  |v y=>unfold Rep at q;obtain⟨e,f⟩:=q;exact(zY f e).elim
  |cell m=>unfold Rep at q;obtain⟨b,eb,e⟩:=q;cases e;exact(k1 (hs _ (wS eb))).elim
  |lst ts=>unfold Rep at q;obtain⟨b,vs',e,z1,z2,z3⟩:=q;cases e;rw[k2]at z2;cases z2;rw[ji nd hs ss ts k3 z3]
  |fz ts=>unfold Rep at q;obtain⟨b,vs',e,z1,z2,z3⟩:=q;cases e;rw[k2]at z2;cases z2
  |tup ts=>unfold Rep at q;obtain⟨b,vs',e,z1,z2,z3⟩:=q;cases e;rw[k2]at z2;cases z2
  |ob o=>unfold Rep at q;obtain⟨b,e,z1,z2,_⟩:=q;cases e;rw[k2]at z2;cases z2
  |dt ks ts=>unfold Rep at q;obtain⟨b,vs',e,z1,z2,z3⟩:=q;cases e;rw[k2]at z2;cases z2
 | .tup ss,t,w,r,q=>by
  unfold Rep at r;obtain⟨a,vs,rfl,k1,k2,k3⟩:=r;cases t with
  |v y=>unfold Rep at q;obtain⟨e,f⟩:=q;exact(zY f e).elim
  |cell m=>unfold Rep at q;obtain⟨b,eb,e⟩:=q;cases e;exact(k1 (hs _ (wS eb))).elim
  |tup ts=>unfold Rep at q;obtain⟨b,vs',e,z1,z2,z3⟩:=q;cases e;rw[k2]at z2;cases z2;rw[ji nd hs ss ts k3 z3]
  |fz ts=>unfold Rep at q;obtain⟨b,vs',e,z1,z2,z3⟩:=q;cases e;rw[k2]at z2;cases z2
  |lst ts=>unfold Rep at q;obtain⟨b,vs',e,z1,z2,z3⟩:=q;cases e;rw[k2]at z2;cases z2
  |ob o=>unfold Rep at q;obtain⟨b,e,z1,z2,_⟩:=q;cases e;rw[k2]at z2;cases z2
  |dt ks ts=>unfold Rep at q;obtain⟨b,vs',e,z1,z2,z3⟩:=q;cases e;rw[k2]at z2;cases z2
 | .ob o,t,w,r,q=>by
  unfold Rep at r;obtain⟨a,rfl,k1,k2,k3⟩:=r;cases t with
  |v y=>unfold Rep at q;obtain⟨e,f⟩:=q;exact(zY f e).elim
  |cell m=>unfold Rep at q;obtain⟨b,eb,e⟩:=q;cases e;exact(k1 (hs _ (wS eb))).elim
  |fz ts=>unfold Rep at q;obtain⟨b,vs',e,z1,z2,z3⟩:=q;cases e;rw[k2]at z2;cases z2
  |lst ts=>unfold Rep at q;obtain⟨b,vs',e,z1,z2,z3⟩:=q;cases e;rw[k2]at z2;cases z2
  |tup ts=>unfold Rep at q;obtain⟨b,vs',e,z1,z2,z3⟩:=q;cases e;rw[k2]at z2;cases z2
  |ob o'=>unfold Rep at q;obtain⟨b,e,z1,z2,_⟩:=q;cases e;rw[k2]at z2;cases z2;rfl
  |dt ks ts=>unfold Rep at q;obtain⟨b,vs',e,z1,z2,⟨zl,zf⟩,z3⟩:=q;cases e;rw[k2]at z2;cases z2;exact(qAb zl zf k3).elim
 | .dt ks ss,t,w,r,q=>by
  unfold Rep at r;obtain⟨a,vs,rfl,k1,k2,⟨kl,kf⟩,k3⟩:=r;cases t with
  |v y=>unfold Rep at q;obtain⟨e,f⟩:=q;exact(zY f e).elim
  |cell m=>unfold Rep at q;obtain⟨b,eb,e⟩:=q;cases e;exact(k1 (hs _ (wS eb))).elim
  |fz ts=>unfold Rep at q;obtain⟨b,vs',e,z1,z2,z3⟩:=q;cases e;rw[k2]at z2;cases z2
  |lst ts=>unfold Rep at q;obtain⟨b,vs',e,z1,z2,z3⟩:=q;cases e;rw[k2]at z2;cases z2
  |tup ts=>unfold Rep at q;obtain⟨b,vs',e,z1,z2,z3⟩:=q;cases e;rw[k2]at z2;cases z2
  |ob o=>unfold Rep at q;obtain⟨b,e,z1,z2,zf⟩:=q;cases e;rw[k2]at z2;cases z2;exact(qAb kl kf zf).elim
  |dt js ts=>
   unfold Rep at q;obtain⟨b,vs',e,z1,z2,⟨zl,_⟩,z3⟩:=q;cases e;rw[k2]at z2;have z4:ks.zip vs=js.zip vs':=by injection z2 with z;injection z with z;injection z
   obtain⟨rfl,rfl⟩:=T1 kl zl z4;rw[ji nd hs ss ts k3 z3]
theorem ji{A X:List Nat}{h:AH}(nd:A.Nodup)(hs:∀a∈A,a∈X):∀(ss ts:List T){ws:List V},qJ A X h ss ws->qJ A X h ts ws->ss=ts
 | [],[],w,r,q=>rfl
 | [],t::ts,w,r,q=>by unfold qJ at r q;obtain⟨v,vs,e,_⟩:=q;subst r;cases e
 |s::ss,[],w,r,q=>by unfold qJ at r q;obtain⟨v,vs,e,_⟩:=r;subst q;cases e
 |s::ss,t::ts,w,r,q=>by
  unfold qJ at r q;obtain⟨v,vs,rfl,k1,k2⟩:=r;obtain⟨v',vs',e,z1,z2⟩:=q;cases e;rw[S0 nd hs s t k1 z1,ji nd hs ss ts k2 z2]
end
mutual
theorem qDe:∀(s t:T),T.beq s t=true->s=t
 | .v x,.v y,h=>by unfold T.beq at h;simp at h;rw[h]
 | .cell x,.cell y,h=>by unfold T.beq at h;simp at h;rw[h]
 | .fz x,.fz y,h=>by unfold T.beq at h;rw[jY x y h]
 | .lst x,.lst y,h=>by unfold T.beq at h;rw[jY x y h]
 | .tup x,.tup y,h=>by unfold T.beq at h;rw[jY x y h]
 | .ob x,.ob y,h=>by unfold T.beq at h;simp at h;rw[h]
 | .dt ks x,.dt js y,h=>by unfold T.beq at h;simp only[wE,uH]at h;rw[h.1,jY x y h.2]
 | .dt _ _,.v _,h | .dt _ _,.cell _,h | .dt _ _,.fz _,h | .dt _ _,.lst _,h | .dt _ _,.tup _,h | .dt _ _,.ob _,h=>by simp[T.beq]at h
 | .v _,.dt _ _,h | .cell _,.dt _ _,h | .fz _,.dt _ _,h | .lst _,.dt _ _,h | .tup _,.dt _ _,h | .ob _,.dt _ _,h=>by simp[T.beq]at h
 | .ob _,.v _,h | .ob _,.cell _,h | .ob _,.fz _,h | .ob _,.lst _,h | .ob _,.tup _,h=>by simp[T.beq]at h
 | .v _,.ob _,h | .cell _,.ob _,h | .fz _,.ob _,h | .lst _,.ob _,h | .tup _,.ob _,h=>by simp[T.beq]at h
 | .v _,.cell _,h | .v _,.fz _,h | .v _,.lst _,h | .v _,.tup _,h=>by simp[T.beq]at h
 | .cell _,.v _,h | .cell _,.fz _,h | .cell _,.lst _,h | .cell _,.tup _,h=>by simp[T.beq]at h
 | .fz _,.v _,h | .fz _,.cell _,h | .fz _,.lst _,h | .fz _,.tup _,h=>by simp[T.beq]at h
 | .lst _,.v _,h | .lst _,.cell _,h | .lst _,.fz _,h | .lst _,.tup _,h=>by simp[T.beq]at h
 | .tup _,.v _,h | .tup _,.cell _,h | .tup _,.fz _,h | .tup _,.lst _,h=>by simp[T.beq]at h
theorem jY:∀(ss ts:List T),T.beqs ss ts=true->ss=ts
 | [],[],h=>rfl
 | [],_::_,h=>by simp[T.beqs]at h
 |_::_,[],h=>by simp[T.beqs]at h
 |s::ss,t::ts,h=>by unfold T.beqs at h;simp only[wE]at h;rw[qDe s t h.1,jY ss ts h.2]
end
def Frm(A:List Nat)(h h':AH):Prop:=h.length<=h'.length/\∀j,j<h.length->j∉A->h'[j]?=h[j]?
theorem Frm.refl(A:List Nat)(h:AH):Frm A h h:=⟨wF _,λ_ _ _=>rfl⟩
theorem Frm.trans{A:List Nat}{a b c:AH}(x:Frm A a b)(y:Frm A b c):Frm A a c:=⟨wH x.1 y.1,λj hj hA=>(y.2 j (wG hj x.1) hA).trans (x.2 j hj hA)⟩
theorem Frm.trans2{A B:List Nat}{a b c:AH}(x:Frm A a b)(hB:∀k∈B,a.length<=k)(y:Frm (A++B) b c):Frm A a c:=
 ⟨wH x.1 y.1,λj hj hA=>(y.2 j (wG hj x.1) (by rw[wL];rintro(z|z);exact hA z;have:=hB _ z;omega)).trans (x.2 j hj hA)⟩
theorem Frm.app(A:List Nat)(h e:AH):Frm A h (h++e):=⟨by simp,λj hj _=>by rw[wC hj]⟩
theorem Frm.set{A:List Nat}{h h':AH}(f:Frm A h h'){a:Nat}(ha:a∈A\/h.length<=a)(o:O):Frm A h (h'.set a o):=⟨by simpa using f.1,λj hj hA=>by
 rw[wV (by rintro rfl;rcases ha with z|z;exact hA z;omega)];exact f.2 j hj hA⟩
theorem qG{h:AH}{a:Nat}{o:O}(e:h[a]?=some o):a<h.length:=(wB.mp e).1
structure RelM(gl:List T)(A X:List Nat)(h:AH)(M:Mem):Prop where
 len:A.length=M.length
 nd:A.Nodup
 sub:∀a∈A,a∈X
 lt:∀a∈X,a<h.length
 at_:∀(n:Nat) a,A[n]?=some a->∃ts vs,M[n]?=some ts/\h[a]?=some (.lst false vs)/\qJ A X h ts vs
 glo:∀(g:Nat) t,gl[g]?=some t->Rep A X h t (.ref g)
section
variable{gl:List T}{A X:List Nat}{h h':AH}{M:Mem}
theorem RelM.keepN(R:RelM gl A X h M)(f:Frm A h h'):∀a o,a∉X->h[a]?=some o->a∉X/\h'[a]?=some o:=λa o hx e=>⟨hx,(f.2 a (qG e) λz=>hx (R.sub _ z)).trans e⟩
theorem RelM.keep(R:RelM gl A X h M)(f:Frm A h h'){t:T}{w:V}(r:Rep A X h t w):Rep A X h' t w:=qm (λ_ _ e=>e) (R.keepN f) t r
theorem RelM.keeps(R:RelM gl A X h M)(f:Frm A h h'){t:List T}{w:List V}(r:qJ A X h t w):qJ A X h' t w:=qH (λ_ _ e=>e) (R.keepN f) t r
theorem RelM.up(R:RelM gl A X h M)(e:AH):RelM gl A X (h++e) M:=by
 have f:Frm A h (h++e):=Frm.app A h e;refine⟨R.len,R.nd,R.sub,λa ha=>wG (R.lt a ha) f.1,λn a ea=>?_,λg t eg=>R.keep f (R.glo g t eg)⟩;obtain⟨ts,vs,e1,e2,e3⟩:=R.at_ n a ea;exact⟨ts,vs,e1,by rw[wC (qG e2)];exact e2,R.keeps f e3⟩
theorem RelM.put(R:RelM gl A X h M){n a:Nat}(ea:A[n]?=some a){ts:List T}{vs:List V}(r:qJ A X h ts vs):RelM gl A X (h.set a (.lst false vs)) (M.set n ts)/\Frm A h (h.set a (.lst false vs)):=by
 have am:a∈A:=wS ea;have f:Frm A h (h.set a (.lst false vs)):=(Frm.refl A h).set (.inl am) _;have al:a<h.length:=R.lt a (R.sub a am);refine⟨⟨by simpa using R.len,R.nd,R.sub,λb hb=>by simpa using R.lt b hb,λm b eb=>?_,λg t eg=>R.keep f (R.glo g t eg)⟩,f⟩;by_cases hm:n=m
 ·subst hm;rw[ea]at eb;cases eb;have nl:n<M.length:=by rw[<-R.len];exact(wB.mp ea).1
  exact⟨ts,vs,by rw[wZ nl],by rw[wZ al],R.keeps f r⟩
 ·obtain⟨ts',vs',e1,e2,e3⟩:=R.at_ m b eb;have hab:a≠b:=by
   rintro rfl;exact hm ((List.getElem?_inj (wB.mp ea).1 R.nd).mp (ea.trans eb.symm))
  exact⟨ts',vs',by rw[wV hm];exact e1,by rw[wV hab];exact e2,R.keeps f e3⟩
end
def New(gl:List T)(A X:List Nat)(n:Nat)(h:AH)(M:Mem)(t:T)(w:V):Prop:=∀kvs,t=.ob (.dct kvs)->∃a,w=.ref a/\n<=a/\RelM gl A (X++[a]) h M
theorem New.of_lf{gl:List T}{A X:List Nat}{n:Nat}{h:AH}{M:Mem}{t:T}{w:V}(l:t.lf=true):New gl A X n h M t w:=λkvs e=>by subst e;cases l
theorem New.lst{gl:List T}{A X:List Nat}{n:Nat}{h:AH}{M:Mem}{ts:List T}{w:V}:New gl A X n h M (.lst ts) w:=λkvs e=>by cases e
theorem New.tup{gl:List T}{A X:List Nat}{n:Nat}{h:AH}{M:Mem}{ts:List T}{w:V}:New gl A X n h M (.tup ts) w:=λkvs e=>by cases e
def Frs(gl:List T)(A X:List Nat)(n:Nat)(h:AH)(M:Mem)(t:T)(w:V):Prop:=∃fp,FP X h t w fp/\fp.Nodup/\(∀a∈fp,n<=a)/\RelM gl A (X++fp) h M/\New gl A X n h M t w
def Frss(gl:List T)(A X:List Nat)(n:Nat)(h:AH)(M:Mem)(t:List T)(w:List V):Prop:=∃fp,FPs X h t w fp/\fp.Nodup/\(∀a∈fp,n<=a)/\RelM gl A (X++fp) h M
theorem Frs.of_lf{gl:List T}{A X:List Nat}{n:Nat}{h:AH}{M:Mem}{t:T}{w:V}(R:RelM gl A X h M)(r:Rep A X h t w)(l:t.lf=true):Frs gl A X n h M t w:=⟨[],qBu t r l,vd,λa ha=>by simp at ha,by rw[wX];exact R,New.of_lf l⟩
theorem Frss.of_lf{gl:List T}{A X:List Nat}{n:Nat}{h:AH}{M:Mem}{t:List T}{w:List V}(R:RelM gl A X h M)(r:qJ A X h t w)(l:T.lfs t=true):Frss gl A X n h M t w:=⟨[],Y1 t r l,vd,λa ha=>by simp at ha,by rw[wX];exact R⟩
def Sim{α β:Type}(gl:List T)(A X:List Nat)(h:AH)(Q:α->β->AH->Mem->Prop):PR (α×Mem)->Res (β×AH)->Prop
 | .ok (x,M'),r=>∃y h',r=.ok (y,h')/\Frm A h h'/\RelM gl A X h' M'/\Q x y h' M'
 | .exc c M',r=>∃h',r=.exc c h'/\Frm A h h'/\RelM gl A X h' M'
 | .stuck,_=>True
theorem Sim.bind{α β α2 β2:Type}{gl:List T}{A X:List Nat}{h:AH}{Q:α->β->AH->Mem->Prop}{Q2:α2->β2->AH->Mem->Prop}{r:PR (α×Mem)}{rh:Res (β×AH)}{f:α×Mem->PR (α2×Mem)}{g:β×AH->Res (β2×AH)}
  (s:Sim gl A X h Q r rh) (k:∀x M' y h',Frm A h h'->RelM gl A X h' M'->Q x y h' M'->Sim gl A X h' Q2 (f (x,M')) (g (y,h'))):Sim gl A X h Q2 (r.bind f) (rh.bind g):=by
 cases r with
 |ok p=>
  obtain⟨x,M'⟩:=p;obtain⟨y,h',rfl,f1,R1,q⟩:=s;have:=k x M' y h' f1 R1 q;rw[tD,tF];revert this;generalize f (x,M')=r2;generalize g (y,h')=rh2;intro s2;cases r2 with
  |ok p2=>
   obtain⟨x2,M2⟩:=p2;obtain⟨y2,h2,e2,f2,R2,q2⟩:=s2;exact⟨y2,h2,e2,f1.trans f2,R2,q2⟩
  |exc c M2=>
   obtain⟨h2,e2,f2,R2⟩:=s2;exact⟨h2,e2,f1.trans f2,R2⟩
  |stuck=>trivial
 |exc c M'=>
  obtain⟨h',rfl,f1,R1⟩:=s;exact⟨h',rfl,f1,R1⟩
 |stuck=>trivial
theorem Sim.nx{α β:Type}{gl:List T}{A X:List Nat}{h:AH}{Q:α->β->AH->Mem->Prop}{r:PR (α×Mem)}{rh:Res (β×AH)}(s:Sim gl A X h Q r rh):Sim gl A X h Q r.nx rh.nx:=by
 cases r with
 |ok p=>obtain⟨x,M'⟩:=p;obtain⟨y,h',rfl,a,b,c⟩:=s;exact⟨y,h',rfl,a,b,c⟩
 |exc c M'=>trivial
 |stuck=>trivial
theorem Sim.stuck{α β:Type}{gl:List T}{A X:List Nat}{h:AH}{Q:α->β->AH->Mem->Prop}{r:Res (β×AH)}:Sim gl A X h Q (.stuck:PR (α×Mem)) r:=trivial
theorem tJ{α β α2:Type}{gl:List T}{A X:List Nat}{h:AH}{Q:α->β->AH->Mem->Prop}{o:Option α2}{f:α2->PR (α×Mem)}{r:Res (β×AH)}(k:∀x,o=some x->Sim gl A X h Q (f x) r):Sim gl A X h Q ((tH o).bind f) r:=by
 cases o with
 |none=>trivial
 |some x=>exact k x rfl
def QE(gl:List T)(A X:List Nat)(n:Nat):TB->V->AH->Mem->Prop:=λx w h M=>Rep A X h x.1 w/\(x.2=true->Frs gl A X n h M x.1 w)
def QEs(gl:List T)(A X:List Nat)(n:Nat):List TB->List V->AH->Mem->Prop:=λx w h M=>qJ A X h (x.map (·.1)) w/\(x.all (·.2)=true->Frss gl A X n h M (x.map (·.1)) w)
theorem QE.le{gl:List T}{A X:List Nat}{n m:Nat}{x:TB}{w:V}{h:AH}{M:Mem}(q:QE gl A X n x w h M)(l:m<=n):QE gl A X m x w h M:=⟨q.1,λe=>by obtain⟨fp,a,b,c,d,nw⟩:=q.2 e;exact⟨fp,a,b,λz hz=>wH l (c z hz),d,λkvs e=>by obtain⟨z,q1,q2,q3⟩:=nw kvs e;exact⟨z,q1,wH l q2,q3⟩⟩⟩
theorem Sim.le{gl:List T}{A X:List Nat}{h:AH}{n m:Nat}{r:PR (TB×Mem)}{rh:RV}(s:Sim gl A X h (QE gl A X n) r rh)(l:m<=n):Sim gl A X h (QE gl A X m) r rh:=by
 cases r with
 |ok p=>obtain⟨y,h',e,f,R,q⟩:=s;exact⟨y,h',e,f,R,q.le l⟩
 |exc c M=>exact s
 |stuck=>trivial
theorem RelM.weak{gl:List T}{A X X':List Nat}{h:AH}{M:Mem}(R:RelM gl A X' h M)(hX:∀a∈X,a∈X')(hA:∀a∈A,a∈X):RelM gl A X h M:=by
 have hn:∀a o,a∉X'->h[a]?=some o->a∉X/\h[a]?=some o:=λa o x y=>⟨λz=>x (hX _ z),y⟩
 refine⟨R.len,R.nd,hA,λa ha=>R.lt a (hX a ha),λn a e=>?_,λg t e=>qm (λ_ _ e=>e) hn t (R.glo g t e)⟩;obtain⟨ts,vs,e1,e2,e3⟩:=R.at_ n a e;exact⟨ts,vs,e1,e2,qH (λ_ _ e=>e) hn ts e3⟩
theorem RelM.addX{gl:List T}{A X X':List Nat}{h:AH}{M:Mem}(R:RelM gl A X h M){o:O}(h1:∀a,a∈X'↔a=h.length\/a∈X):RelM gl A X' (h++[o]) M:=by
 have hn:∀a o',a∉X->h[a]?=some o'->a∉X'/\(h++[o])[a]?=some o':=λa o' x y=>⟨by
  rw[h1];rintro(z|z)
  ·have:=qG y;omega
  ·exact x z,by rw[wC (qG y)];exact y⟩
 refine⟨R.len,R.nd,λa ha=>(h1 a).mpr (.inr (R.sub a ha)),λa ha=>?_,λn a e=>?_,λg t e=>qm (λ_ _ e=>e) hn t (R.glo g t e)⟩
 ·rcases(h1 a).mp ha with z|z
  ·simp[z]
  ·have:=R.lt a z;simp;omega
 ·obtain⟨ts,vs,e1,e2,e3⟩:=R.at_ n a e;exact⟨ts,vs,e1,by rw[wC (qG e2)];exact e2,qH (λ_ _ e=>e) hn ts e3⟩
section
variable{gl:List T}{A X:List Nat}{h:AH}{M:Mem}
theorem L0(R:RelM gl A X h M){t:T}{w:V}{ts:List T}(r:Rep A X h t w)(e:t.its M=some ts):∃a vs,w=.ref a/\items h a=some vs/\qJ A X h ts vs:=by
 cases t with
 |v x=>cases e
 |cell n=>
  unfold Rep at r;obtain⟨a,ea,rfl⟩:=r;obtain⟨ts',vs,e1,e2,e3⟩:=R.at_ n a ea;have:M[n]?=some ts:=e;rw[e1]at this;cases this;exact⟨a,vs,rfl,by unfold items;rw[e2],e3⟩
 |fz xs=>unfold Rep at r;obtain⟨a,vs,rfl,_,q,k⟩:=r;cases e;exact⟨a,vs,rfl,by unfold items;rw[q],k⟩
 |lst xs=>unfold Rep at r;obtain⟨a,vs,rfl,_,q,k⟩:=r;cases e;exact⟨a,vs,rfl,by unfold items;rw[q],k⟩
 |tup xs=>unfold Rep at r;obtain⟨a,vs,rfl,_,q,k⟩:=r;cases e;exact⟨a,vs,rfl,by unfold items;rw[q],k⟩
 |ob o=>cases e
 |dt ks ts=>cases e
theorem zb(R:RelM gl A X h M){t:T}{w:V}{ts:List T}(r:Rep A X h t w)(e:t.lis M=some ts):∃a vs f,w=.ref a/\h[a]?=some (.lst f vs)/\qJ A X h ts vs:=by
 cases t with
 |v x=>cases e
 |cell n=>
  unfold Rep at r;obtain⟨a,ea,rfl⟩:=r;obtain⟨ts',vs,e1,e2,e3⟩:=R.at_ n a ea;have:M[n]?=some ts:=e;rw[e1]at this;cases this;exact⟨a,vs,false,rfl,e2,e3⟩
 |fz xs=>unfold Rep at r;obtain⟨a,vs,rfl,_,q,k⟩:=r;cases e;exact⟨a,vs,true,rfl,q,k⟩
 |lst xs=>unfold Rep at r;obtain⟨a,vs,rfl,_,q,k⟩:=r;cases e;exact⟨a,vs,false,rfl,q,k⟩
 |tup xs=>cases e
 |ob o=>cases e
 |dt ks ts=>cases e
theorem qAi(R:RelM gl A X h M){g:Bool}{t:T}{w:V}{ts:List T}(r:Rep A X h t w)(e:t.sel g M=some ts):∃a vs,w=.ref a/\qBB g h a=some vs/\qJ A X h ts vs:=by
 cases g with
 |false=>
  obtain⟨a,vs,f,h1,h2,h3⟩:=zb R r (show t.lis M=some ts from e);exact⟨a,vs,h1,by show qL h a=_;unfold qL;rw[h2],h3⟩
 |true=>
  unfold T.sel at e;rw[if_pos rfl]at e;split at e
  ·cases e;unfold Rep at r;obtain⟨a,vs,rfl,_,q,k⟩:=r;exact⟨a,vs,rfl,by show qT h a=_;unfold qT;rw[q],k⟩
  ·cases e
theorem U8(R:RelM gl A X h M){t:T}{w:V}{ts:List T}(r:Rep A X h t w)(e:t.mu M=some ts):∃a vs,w=.ref a/\qg h a=some vs/\qJ A X h ts vs:=by
 cases t with
 |v x=>cases e
 |cell n=>
  unfold Rep at r;obtain⟨a,ea,rfl⟩:=r;obtain⟨ts',vs,e1,e2,e3⟩:=R.at_ n a ea;have:M[n]?=some ts:=e;rw[e1]at this;cases this;exact⟨a,vs,rfl,by unfold qg;rw[e2],e3⟩
 |fz xs=>cases e
 |lst xs=>unfold Rep at r;obtain⟨a,vs,rfl,_,q,k⟩:=r;cases e;exact⟨a,vs,rfl,by unfold qg;rw[q],k⟩
 |tup xs=>cases e
 |ob o=>cases e
 |dt ks ts=>cases e
theorem qX{t:T}{x:V}(e:t.isV=some x):t=.v x:=by cases t<;>cases e;rfl
theorem jO{t:T}{w:V}(e:t.isV=none)(r:Rep A X h t w):∃a:Nat,w=.ref a:=by
 cases t with
 |v x=>cases e
 |cell n=>unfold Rep at r;obtain⟨a,_,e⟩:=r;exact⟨a,e⟩
 |fz xs=>unfold Rep at r;obtain⟨a,vs,e,_⟩:=r;exact⟨a,e⟩
 |lst xs=>unfold Rep at r;obtain⟨a,vs,e,_⟩:=r;exact⟨a,e⟩
 |tup xs=>unfold Rep at r;obtain⟨a,vs,e,_⟩:=r;exact⟨a,e⟩
 |ob o=>unfold Rep at r;obtain⟨a,e,_⟩:=r;exact⟨a,e⟩
 |dt ks ts=>unfold Rep at r;obtain⟨a,vs,e,_⟩:=r;exact⟨a,e⟩
theorem JJ(R:RelM gl A X h M){ts:List T}{vs:List V}{n:Nat}{f:Bool}(r:qJ A X h ts vs)(hn:n<=h.length)(hf:f=true->Frss gl A X n h M ts vs):Sim gl A X h (QE gl A X n) (.ok ((.lst ts,f),M)) (newL vs h):=by
 have fm:Frm A h (h++[O.lst false vs]):=Frm.app A h _;have hx:h.length∉X:=λz=>wf _ (R.lt _ z);have ha:(h++[O.lst false vs])[h.length]?=some (.lst false vs):=by simp
 refine⟨.ref h.length,_,rfl,fm,R.up _,?_,λe=>?_⟩
 ·show Rep A X _ (.lst ts) _;unfold Rep;exact⟨_,vs,rfl,hx,ha,R.keeps fm r⟩
 ·obtain⟨fp,p,nd,l,R'⟩:=hf e;refine⟨fp++[h.length],?_,?_,?_,R'.addX λa=>by simp only[wL,wY];grind,New.lst⟩
  ·show FP X _ (.lst ts) _ _;unfold FP;exact⟨_,vs,fp,rfl,hx,ha,zZ (R.keepN fm) ts p,rfl⟩
  ·rw[vE];refine⟨nd,by simp,?_⟩;rintro a ha b hb rfl;obtain⟨_,vs',q⟩:=QA ts p a ha;simp at hb;have:=qG q;omega
  ·intro a ha;rcases wL.mp ha with z|z
   ·exact l a z
   ·simp at z;omega
theorem E8(R:RelM gl A X h M){ts:List T}{vs:List V}{n:Nat}{f:Bool}(r:qJ A X h ts vs)(hf:f=true->Frss gl A X n h M ts vs):Sim gl A X h (QE gl A X n) (.ok ((.tup ts,f),M)) (newT vs h):=by
 have fm:Frm A h (h++[O.tup vs]):=Frm.app A h _;have hx:h.length∉X:=λz=>wf _ (R.lt _ z);have ha:(h++[O.tup vs])[h.length]?=some (.tup vs):=by simp
 refine⟨.ref h.length,_,rfl,fm,R.up _,?_,λe=>?_⟩
 ·show Rep A X _ (.tup ts) _;unfold Rep;exact⟨_,vs,rfl,hx,ha,R.keeps fm r⟩
 ·obtain⟨fp,p,nd,l,R'⟩:=hf e;refine⟨fp,?_,nd,l,R'.up _,New.tup⟩;show FP X _ (.tup ts) _ _;unfold FP;exact⟨_,vs,rfl,hx,ha,zZ (R.keepN fm) ts p⟩
theorem O0(R:RelM gl A X h M){ts:List T}{vs:List V}(r:qJ A X h ts vs):Sim gl A X h (QE gl A X h.length) (.ok (lT ts,M)) (newL vs h):=
 JJ R r (wF _) λe=>Frss.of_lf R r e
theorem qF(R:RelM gl A X h M){x:V}(fx:flat x=true){n:Nat}:Sim gl A X h (QE gl A X n) (.ok ((.v x,true),M)) (.ok (x,h)):=
 have r:Rep A X h (.v x) x:=by unfold Rep;exact⟨rfl,fx⟩
 ⟨x,h,rfl,Frm.refl A h,R,r,λ_=>Frs.of_lf R r rfl⟩
theorem qo{x w:V}(r:Rep A X h (.v x) w):w=x:=by unfold Rep at r;exact r.1
theorem qBU(xs:List T):T.lf (.tup xs)=T.lfs xs:=by rw[T.lf]
theorem qBV(R:RelM gl A X h M){op:BOp}{s t:T}{x y:V}{r:TB}(e:qr M op s t=some r)(r1:Rep A X h s x)(r2:Rep A X h t y):Sim gl A X h (QE gl A X h.length) (.ok (r,M)) (qDL op x y h):=by
 unfold qr at e;split at e
 ·rename_i i j e1 e2;cases qX e1;cases qX e2;cases qo r1;cases qo r2;cases op with
  |add=>cases e;exact qF R rfl
  |sub=>cases e;exact qF R rfl
  |mul=>dsimp only at e;split at e<;>cases e;rename_i c;show Sim _ _ _ _ _ _ (if _ then _ else _);rw[if_pos c];exact qF R rfl
  |fdiv=>
   dsimp only at e;show Sim _ _ _ _ _ _ (if _ then _ else _);split at e
   ·rename_i c;cases e;rw[if_pos c];exact qF R rfl
   ·rename_i c;rw[if_neg c];split at e
    ·rename_i c;cases e;rw[if_pos c];exact qF R rfl
    ·cases e
  |mod=>
   dsimp only at e;show Sim _ _ _ _ _ _ (if _ then _ else _);split at e
   ·rename_i c;cases e;rw[if_pos c];exact qF R rfl
   ·rename_i c;rw[if_neg c];split at e
    ·rename_i c;cases e;rw[if_pos c];exact qF R rfl
    ·cases e
  |pow=>dsimp only at e;split at e<;>cases e;rename_i c;show Sim _ _ _ _ _ _ (if _ then _ else _);rw[if_pos c];exact qF R rfl
  |band=>cases e;exact qF R rfl
 ·rename_i k e1 e2;cases qX e2;cases qo r2;obtain⟨a,rfl⟩:=jO e1 r1;cases op<;>first|cases e|skip
  dsimp only at e;cases em:s.mu M with
  |none=>rw[em]at e;cases e
  |some xs=>
   rw[em]at e;dsimp only[Option.bind_some]at e;split at e<;>cases e;rename_i c;obtain⟨a',vs,ea,m,rs⟩:=U8 R r1 em;cases ea;have lv:vs.length=xs.length:=(qC (reps_iff.mp rs)).symm;show Sim _ _ _ _ _ _ (match qg h a with|some xs=>_|none=>_);rw[m];dsimp only;rw[if_pos (by rw[lv];exact c)];exact O0 R (reps_iff.mpr (o0 _ (reps_iff.mp rs)))
 ·rename_i e1 e2;obtain⟨a,rfl⟩:=jO e1 r1;obtain⟨b,rfl⟩:=jO e2 r2;cases op<;>first|cases e|skip
  dsimp only at e;split at e
  ·rename_i xs ys;split at e<;>cases e;rename_i c;unfold Rep at r1 r2;obtain⟨a1,vs,ea,n1,k1,q1⟩:=r1;cases ea;obtain⟨b1,us,eb,n2,k2,q2⟩:=r2;cases eb;have lv:vs.length=xs.length:=(qC (reps_iff.mp q1)).symm;have lu:us.length=ys.length:=(qC (reps_iff.mp q2)).symm;have m1:qg h a=none:=by unfold qg;rw[k1]
   have t1:qT h a=some vs:=by unfold qT;rw[k1]
   have t2:qT h b=some us:=by unfold qT;rw[k2]
   have q3:=reps_iff.mpr (zD (reps_iff.mp q1) (reps_iff.mp q2));show Sim _ _ _ _ _ _ (match qg h a,qg h b with|some xs,some ys=>_|_,_=>_);rw[m1];show Sim _ _ _ _ _ _ (match qT h a,qT h b with|some xs,some ys=>_|_,_=>_);rw[t1,t2];dsimp only;rw[if_pos ⟨λz=>c.1 (by subst z;exact wc.mp lv.symm),by rw[lv,lu];exact c.2⟩];split
   ·rename_i z;subst z;have y0:ys=[]:=wc.mp lu.symm;subst y0;have r:Rep A X h (.tup (xs++[])) (.ref a):=by
     rw[wX];unfold Rep;exact⟨a,vs,rfl,n1,k1,q1⟩
    exact⟨_,h,rfl,Frm.refl A h,R,r,λe=>Frs.of_lf R r (by rw[qBU];exact e)⟩
   ·exact E8 R q3 λe=>Frss.of_lf R q3 e
  cases em:s.mu M with
  |none=>rw[em]at e;cases e
  |some xs=>
   rw[em]at e;dsimp only[Option.bind_some]at e;cases en:t.mu M with
   |none=>rw[en]at e;cases e
   |some ys=>
    rw[en]at e;dsimp only[Option.bind_some]at e;split at e<;>cases e;rename_i c;obtain⟨a',vs,ea,m,rs⟩:=U8 R r1 em;cases ea;obtain⟨b',us,eb,m2,rs2⟩:=U8 R r2 en;cases eb;have lv:vs.length=xs.length:=(qC (reps_iff.mp rs)).symm;have lu:us.length=ys.length:=(qC (reps_iff.mp rs2)).symm;show Sim _ _ _ _ _ _ (match qg h a,qg h b with|some xs,some ys=>_|_,_=>_);rw[m,m2];dsimp only;rw[if_pos (by rw[lv,lu];exact c)];exact O0 R (reps_iff.mpr (zD (reps_iff.mp rs) (reps_iff.mp rs2)))
 ·cases e
theorem M8{x:V}{b:Bool}(e:eqF x x=some b):b=true:=by
 cases x with
 |int i=>cases e;exact uK i
 |bl i=>cases e;exact uK i
 |str i=>cases e;exact uK i
 |non=>cases e;rfl
 |_=>cases e
theorem jb{f:T->T->Option Bool}(hf:∀t b,f t t=some b->b=true):∀(ts:List T) bs,zh f ts ts=some bs->bs.all id=true
 | [],bs,e=>by cases e;rfl
 |t::ts,bs,e=>by
  unfold zh at e;split at e
  ·rename_i b bs' e1 e2;cases e;rw[List.all_cons,hf t b e1,jb hf ts bs' e2];rfl
  ·cases e
theorem Zw:∀(n:Nat) (t:T) (b:Bool),eqT M n t t=some b->b=true
 | 0,t,b,e=>by
  unfold eqT at e;split at e
  ·rename_i x y e1 e2;rw[e1]at e2;cases e2;exact M8 e
  ·cases e
 |n+1,t,b,e=>by
  unfold eqT at e;split at e
  ·rename_i x y e1 e2;rw[e1]at e2;cases e2;exact M8 e
  ·rename_i e1 e2;rw[e1]at e2;cases e2
  ·rename_i e1 e2;rw[e1]at e2;cases e2
  ·split at e
   ·rename_i xs ys e1 e2;rw[e1]at e2;cases e2;rw[if_pos rfl]at e;obtain⟨bs,eb,rfl⟩:=wA.mp e;exact jb (Zw n) xs bs eb
   ·rename_i e1 e2;rw[e1]at e2;cases e2
   ·rename_i e1 e2;rw[e1]at e2;cases e2
   ·split at e
    ·rename_i xs ys e1 e2;rw[e1]at e2;cases e2;rw[if_pos rfl]at e;obtain⟨bs,eb,rfl⟩:=wA.mp e;exact jb (Zw n) xs bs eb
    ·cases e
theorem Qd{f:T->T->Option Bool}{g:V->V->Option Bool}(hf:∀s t x y b,Rep A X h s x->Rep A X h t y->f s t=some b->g x y=some b):∀{ss ts:List T}{xs ys:List V}{bs:List Bool},qJ A X h ss xs->qJ A X h ts ys->zh f ss ts=some bs->ZU g xs ys=some bs
 | [],[],xs,ys,bs,r1,r2,e=>by unfold qJ at r1 r2;subst r1 r2;exact e
 | [],t::ts,xs,ys,bs,r1,r2,e=>by cases e
 |s::ss,[],xs,ys,bs,r1,r2,e=>by cases e
 |s::ss,t::ts,xs,ys,bs,r1,r2,e=>by
  unfold qJ at r1 r2;obtain⟨x,xs',rfl,a1,a2⟩:=r1;obtain⟨y,ys',rfl,b1,b2⟩:=r2;unfold zh at e;split at e
  ·rename_i b bs' e1 e2;cases e;unfold ZU;rw[hf s t x y b a1 b1 e1,Qd hf a2 b2 e2]
  ·cases e
theorem jZ{x w:V}(r:Rep A X h (.v x) w):flat x=true:=by unfold Rep at r;exact r.2
theorem L1(R:RelM gl A X h M){t:T}{a:Nat}(r:Rep A X h t (.ref a))(hs:(t.its M).isSome=true):(items h a).isSome=true:=by
 cases t with
 |v x=>unfold Rep at r;exact(zY r.2 r.1).elim
 |cell n=>unfold Rep at r;obtain⟨b,eb,e⟩:=r;cases e;obtain⟨_,_,_,q,_⟩:=R.at_ n _ eb;unfold items;rw[q];rfl
 |fz xs=>unfold Rep at r;obtain⟨b,vs,e,_,q,_⟩:=r;cases e;unfold items;rw[q];rfl
 |lst xs=>unfold Rep at r;obtain⟨b,vs,e,_,q,_⟩:=r;cases e;unfold items;rw[q];rfl
 |tup xs=>unfold Rep at r;obtain⟨b,vs,e,_,q,_⟩:=r;cases e;unfold items;rw[q];rfl
 |ob o=>cases hs
 |dt ks ts=>cases hs
theorem F6{t:T}{w:V}{ts:List T}(r:Rep A X h t w)(e1:t.isV=none)(e2:t.lis M=none)(e:t.its M=some ts):∃a vs,w=.ref a/\h[a]?=some (.tup vs)/\qJ A X h ts vs:=by
 cases t with
 |v x=>cases e1
 |cell n=>have z:M[n]?=some ts:=e;have z2:M[n]?=none:=e2;rw[z]at z2;cases z2
 |fz xs=>cases e2
 |lst xs=>cases e2
 |tup xs=>unfold Rep at r;obtain⟨b,vs,e',_,q,k⟩:=r;cases e;exact⟨b,vs,e',q,k⟩
 |ob o=>cases e
 |dt ks ts=>cases e
theorem v6{n:Nat}{x y:V}(fx:flat x=true)(fy:flat y=true):eqD h (n+1) x y=eqF x y:=by
 cases x<;>cases y<;>first|rfl|(simp[flat]at fx;done)|(simp[flat]at fy;done)
theorem JX(R:RelM gl A X h M):∀(n:Nat) (s t:T) (x y:V) (b:Bool),Rep A X h s x->Rep A X h t y->eqT M n s t=some b->eqD h n x y=some b
 | 0,s,t,x,y,b,r1,r2,e=>by
  unfold eqT at e;split at e
  ·rename_i x' y' e1 e2;cases qX e1;cases qX e2;cases qo r1;cases qo r2;unfold eqD;exact e
  ·cases e
 |n+1,s,t,x,y,b,r1,r2,e=>by
  unfold eqT at e;split at e
  ·rename_i x' y' e1 e2;cases qX e1;cases qX e2;cases qo r1;cases qo r2;rw[v6 (jZ r1) (jZ r2)];exact e
  ·rename_i x' e1 e2;cases qX e1;cases qo r1;obtain⟨c,rfl⟩:=jO e2 r2;have fx:=jZ r1;split at e<;>cases e;rename_i hz;have:=L1 R r2 hz;cases x<;>first|(unfold eqD;simp[flat,this];done)|(simp[flat]at fx;done)
  ·rename_i y' e1 e2;cases qX e2;cases qo r2;obtain⟨c,rfl⟩:=jO e1 r1;have fx:=jZ r2;split at e<;>cases e;rename_i hz;have:=L1 R r1 hz;cases y<;>first|(unfold eqD;simp[flat,this];done)|(simp[flat]at fx;done)
  ·rename_i e1 e2;obtain⟨c,rfl⟩:=jO e1 r1;obtain⟨d,rfl⟩:=jO e2 r2;have same:c=d->b=true:=by
    rintro rfl;have:=S0 R.nd R.sub s t r1 r2;subst this;refine Zw (M:=M) (n+1) s b ?_;unfold eqT;rw[e1];exact e
   split at e
   ·rename_i xs ys l1 l2;obtain⟨_,vs,f1,q1,k1,m1⟩:=zb R r1 l1;cases q1;obtain⟨_,us,f2,q2,k2,m2⟩:=zb R r2 l2;cases q2;unfold eqD;rw[k1,k2];dsimp only;by_cases hcd:c=d
    ·rw[if_pos hcd,same hcd]
    ·rw[if_neg hcd,<-qC (reps_iff.mp m1),<-qC (reps_iff.mp m2)];split at e
     ·rename_i hl;rw[if_pos hl];obtain⟨bs,eb,rfl⟩:=wA.mp e;rw[Qd (λs t x y b a1 a2 a3=>JX R n s t x y b a1 a2 a3) m1 m2 eb];rfl
     ·rename_i hl;rw[if_neg hl];exact e
   ·rename_i l1 l2;obtain⟨_,vs,f1,q1,k1,m1⟩:=zb R r1 l1;cases q1;split at e<;>cases e;rename_i z;cases ei:t.its M with
    |none=>rw[ei]at z;cases z
    |some ys=>
     obtain⟨_,us,q2,k2,m2⟩:=F6 r2 e2 l2 ei;cases q2;unfold eqD;rw[k1,k2]
   ·rename_i l1 l2;obtain⟨_,vs,f1,q1,k1,m1⟩:=zb R r2 l2;cases q1;split at e<;>cases e;rename_i z;cases ei:s.its M with
    |none=>rw[ei]at z;cases z
    |some ys=>
     obtain⟨_,us,q2,k2,m2⟩:=F6 r1 e1 l1 ei;cases q2;unfold eqD;rw[k1,k2]
   ·rename_i l1 l2;split at e
    ·rename_i xs ys i1 i2;obtain⟨_,vs,q1,k1,m1⟩:=F6 r1 e1 l1 i1;cases q1;obtain⟨_,us,q2,k2,m2⟩:=F6 r2 e2 l2 i2;cases q2;unfold eqD;rw[k1,k2];dsimp only;by_cases hcd:c=d
     ·rw[if_pos hcd,same hcd]
     ·rw[if_neg hcd,<-qC (reps_iff.mp m1),<-qC (reps_iff.mp m2)];split at e
      ·rename_i hl;rw[if_pos hl];obtain⟨bs,eb,rfl⟩:=wA.mp e;rw[Qd (λs t x y b a1 a2 a3=>JX R n s t x y b a1 a2 a3) m1 m2 eb];rfl
      ·rename_i hl;rw[if_neg hl];obtain⟨bs,eb,rfl⟩:=wA.mp e;rw[Qd (λs t x y b a1 a2 a3=>JX R n s t x y b a1 a2 a3) (reps_iff.mpr (jn _ (reps_iff.mp m1))) (reps_iff.mpr (jn _ (reps_iff.mp m2))) eb];rfl
    ·cases e
theorem JK:∀{ts:List T}{vs xs:List V},qJ A X h ts vs->qz ts=some xs->vs=xs/\xs.all flat=true
 | [],vs,xs,r,e=>by unfold qJ at r;subst r;cases e;exact⟨rfl,rfl⟩
 |t::ts,vs,xs,r,e=>by
  unfold qJ at r;obtain⟨v,vs',rfl,a,b⟩:=r;cases t with
  |v x=>
   unfold qz at e;obtain⟨xs',e',rfl⟩:=wA.mp e;obtain⟨rfl,k⟩:=JK b e';cases qo a;exact⟨rfl,by rw[List.all_cons,jZ a,k];rfl⟩
  |_=>cases e
theorem d7{t:T}{kvs:List (Int×V)}{w:V}(e:t.dct=some kvs)(r:Rep A X h t w):∃p:Nat,w=.ref p/\p∉X/\h[p]?=some (.ob (.dct kvs))/\(Ob.dct kvs).fl=true:=by
 cases t with
 |ob o=>
  cases o with
  |dct k=>cases e;unfold Rep at r;exact r
  |exn c=>cases e
 |_=>cases e
theorem qAJ(R:RelM gl A X h M){s t:T}{x y:V}{b:Bool}(r1:Rep A X h s x)(r2:Rep A X h t y)(e:inT M s t=some b):j0 .inn x y h=some b/\j0 .notin x y h=some (!b):=by
 unfold inT at e;cases hd:t.dct with
 |some kvs=>
  rw[hd]at e;obtain⟨p,rfl,q1,q2,_⟩:=d7 hd r2;have i0:items h p=none:=by unfold items;rw[q2]
  have d0:zz h p=some kvs:=by unfold zz;rw[q2]
  dsimp only at e;split at e
  ·cases e;cases qo r1;constructor
   ·dsimp only[j0,qAk];rw[i0];dsimp only;rw[d0]
   ·dsimp only[j0,qAk];rw[i0];dsimp only;rw[d0]
  ·cases e
 |none=>
 rw[hd]at e;dsimp only at e;obtain⟨a,ea,e⟩:=wK.mp e;obtain⟨ts,et,e⟩:=wK.mp e;obtain⟨xs,ex,rfl⟩:=wA.mp e;cases qX ea;cases qo r1;obtain⟨p,vs,rfl,q1,q2⟩:=L0 R r2 et;obtain⟨rfl,k⟩:=JK q2 ex;have fx:=jZ r1;constructor
 ·dsimp only[j0,qAk];rw[q1];dsimp only;rw[if_pos (by rw[fx,k];rfl)]
 ·dsimp only[j0,qAk];rw[q1];dsimp only;rw[if_pos (by rw[fx,k];rfl)]
theorem C3(R:RelM gl A X h M){op:COp}{s t:T}{x y:V}{b:Bool}(r1:Rep A X h s x)(r2:Rep A X h t y)(e:zB M op s t=some b):j0 op x y h=some b:=by
 cases op with
 |eq=>exact JX R 4 s t x y b r1 r2 e
 |ne=>
  obtain⟨c,ec,rfl⟩:=wA.mp (show (eqT M 4 s t).map (!·)=some b from e);show (eqD h 4 x y).map (!·)=_;rw[JX R 4 s t x y c r1 r2 ec];rfl
 |inn=>exact(qAJ R r1 r2 e).1
 |notin=>
  obtain⟨c,ec,rfl⟩:=wA.mp (show (inT M s t).map (!·)=some b from e);exact(qAJ R r1 r2 ec).2
 |is=>
  unfold zB at e;dsimp only at e;split at e
  ·rename_i e2;cases qX e2;cases qo r2;cases e;show some (decide (x=V.non))=_;cases hs:s.isV with
   |none=>obtain⟨a,rfl⟩:=jO hs r1;rfl
   |some z=>cases qX hs;cases qo r1;cases x<;>rfl
  ·rename_i e2;cases qX e2;cases qo r2;split at e
   ·rename_i e3;cases qX e3;cases qo r1;exact e
   ·cases e
  ·cases e
 |isnot=>
  unfold zB at e;dsimp only at e;split at e
  ·rename_i e2;cases qX e2;cases qo r2;cases e;show some (!decide (x=V.non))=_;cases hs:s.isV with
   |none=>obtain⟨a,rfl⟩:=jO hs r1;rfl
   |some z=>cases qX hs;cases qo r1;cases x<;>rfl
  ·rename_i e2;cases qX e2;cases qo r2;split at e
   ·rename_i e3;cases qX e3;cases qo r1;exact e
   ·cases e
  ·cases e
 |lt=>unfold zB at e;dsimp only at e;split at e<;>first|(rename_i e1 e2;cases qX e1;cases qX e2;cases qo r1;cases qo r2;exact e)|cases e
 |le=>unfold zB at e;dsimp only at e;split at e<;>first|(rename_i e1 e2;cases qX e1;cases qX e2;cases qo r1;cases qo r2;exact e)|cases e
 |gt=>unfold zB at e;dsimp only at e;split at e<;>first|(rename_i e1 e2;cases qX e1;cases qX e2;cases qo r1;cases qo r2;exact e)|cases e
 |ge=>unfold zB at e;dsimp only at e;split at e<;>first|(rename_i e1 e2;cases qX e1;cases qX e2;cases qo r1;cases qo r2;exact e)|cases e
theorem jt:∀{ts:List T}{vs:List V}{is:List Int},qJ A X h ts vs->qW ts=some is->zO vs=some is
 | [],vs,xs,r,e=>by unfold qJ at r;subst r;cases e;rfl
 |t::ts,vs,xs,r,e=>by
  unfold qJ at r;obtain⟨v,vs',rfl,a,b⟩:=r;unfold qW at e;split at e
  ·rename_i e';cases e'
  ·rename_i e';cases e';obtain⟨xs',e',rfl⟩:=wA.mp e;cases qo a;show (zO vs').map _=_;rw[jt b e'];rfl
  ·cases e
theorem D2:∀{ts:List T}{vs:List V}{is:List Int},qJ A X h ts vs->ja ts=some is->jE vs=some is
 | [],vs,xs,r,e=>by unfold qJ at r;subst r;cases e;rfl
 |t::ts,vs,xs,r,e=>by
  unfold qJ at r;obtain⟨v,vs',rfl,a,b⟩:=r;unfold ja at e;split at e
  ·rename_i e';cases e'
  ·rename_i e';cases e';obtain⟨xs',e',rfl⟩:=wA.mp e;cases qo a;show (jE vs').map _=_;rw[D2 b e'];rfl
  ·rename_i e';cases e';obtain⟨xs',e',rfl⟩:=wA.mp e;cases qo a;show (jE vs').map _=_;rw[D2 b e'];rfl
  ·cases e
theorem A9{t:T}{ws:List V}(r:qJ A X h [t] ws):∃w,ws=[w]/\Rep A X h t w:=by
 unfold qJ at r;obtain⟨v,vs,rfl,a,b⟩:=r;unfold qJ at b;subst b;exact⟨v,rfl,a⟩
theorem qCL{s t:T}{ws:List V}(r:qJ A X h [s,t] ws):∃w u,ws=[w,u]/\Rep A X h s w/\Rep A X h t u:=by
 unfold qJ at r;obtain⟨v,vs,rfl,a,b⟩:=r;obtain⟨u,rfl,c⟩:=A9 b;exact⟨v,u,rfl,a,c⟩
theorem qO{a:Nat}{f:Bool}{vs:List V}(e:h[a]?=some (.lst f vs)):qL h a=some vs:=by unfold qL;rw[e]
theorem Zt(R:RelM gl A X h M){t:T}{w:V}{n:Nat}(r:Rep A X h t w):Sim gl A X h (QE gl A X n) (.ok ((t,t.lf),M)) (.ok (w,h)):=
 ⟨w,h,rfl,Frm.refl A h,R,r,λe=>Frs.of_lf R r e⟩
theorem J9:∀l:List Int,T.lfs (l.map λi=>T.v (.int i))=true
 | []=>by rw[List.map_nil,T.lfs]
 |x::r=>by rw[List.map_cons,T.lfs,J9 r];rfl
theorem JZ{A X:List Nat}{h:AH}:∀l:List Int,qJ A X h (l.map λi=>T.v (.int i)) (l.map V.int)
 | []=>by rw[List.map_nil,List.map_nil];unfold qJ;rfl
 |x::r=>by
  rw[List.map_cons,List.map_cons];unfold qJ;exact⟨_,_,rfl,by unfold Rep;exact⟨rfl,rfl⟩,JZ r⟩
theorem qBp(R:RelM gl A X h M){f:BF}{ts:List T}{ws:List V}{r:TB}(rs:qJ A X h ts ws)(e:QC M f ts=some r):Sim gl A X h (QE gl A X h.length) (.ok (r,M)) (qEn f ws h):=by
 cases f with
 |len=>
  replace e:=jI e;obtain⟨t0,rfl,e⟩:=e;obtain⟨w,rfl,rw_⟩:=A9 rs;obtain⟨xs,ex,rfl⟩:=wA.mp e;obtain⟨a,vs,rfl,q1,q2⟩:=L0 R rw_ ex;show Sim _ _ _ _ _ _ (match items h a with|some xs=>_|none=>_);rw[q1,qC (reps_iff.mp q2)];exact qF R rfl
 |sum=>
  replace e:=jI e;obtain⟨t0,rfl,e⟩:=e;obtain⟨w,rfl,rw_⟩:=A9 rs;obtain⟨xs,ex,e⟩:=wK.mp e;obtain⟨is,ei,rfl⟩:=wA.mp e;obtain⟨a,vs,f,rfl,q1,q2⟩:=zb R rw_ ex;show Sim _ _ _ _ _ _ (match qL h a with|some xs=>_|none=>_);rw[qO q1];dsimp only;rw[D2 q2 ei];exact qF R rfl
 |max=>
  replace e:=twoT_inv e;obtain⟨i,j,rfl,e⟩:=e;obtain⟨w,u,rfl,a,b⟩:=qCL rs;cases qo a;cases qo b;cases e;exact qF R rfl
 |min=>
  replace e:=twoT_inv e;obtain⟨i,j,rfl,e⟩:=e;obtain⟨w,u,rfl,a,b⟩:=qCL rs;cases qo a;cases qo b;cases e;exact qF R rfl
 |maxl=>
  replace e:=jI e;obtain⟨t0,rfl,e⟩:=e;obtain⟨w,rfl,rw_⟩:=A9 rs;obtain⟨xs,ex,e⟩:=wK.mp e;obtain⟨is,ei,e⟩:=wK.mp e;obtain⟨M,eM,rfl⟩:=wA.mp e;obtain⟨a,vs,f,rfl,q1,q2⟩:=zb R rw_ ex;show Sim _ _ _ _ _ _ (match qL h a with|some xs=>_|none=>_);rw[qO q1];dsimp only;rw[jt q2 ei,Option.bind_some,eM];exact qF R rfl
 |bits=>
  replace e:=jI e;obtain⟨t0,rfl,e⟩:=e;split at e
  ·obtain⟨w,rfl,a⟩:=A9 rs;cases qo a;cases e;exact qF R rfl
  ·cases e
 |list=>
  replace e:=jI e;obtain⟨t0,rfl,e⟩:=e;obtain⟨w,rfl,rw_⟩:=A9 rs;obtain⟨xs,ex,rfl⟩:=wA.mp e;obtain⟨a,vs,rfl,q1,q2⟩:=L0 R rw_ ex;show Sim _ _ _ _ _ _ (match items h a with|some xs=>_|none=>_);rw[q1];exact O0 R q2
 |int=>
  replace e:=jI e;obtain⟨t0,rfl,e⟩:=e;split at e
  ·obtain⟨w,rfl,a⟩:=A9 rs;cases qo a;cases e;exact qF R rfl
  ·obtain⟨w,rfl,a⟩:=A9 rs;cases qo a;cases e;exact qF R rfl
  ·cases e
theorem z8(R:RelM gl A X h M){t:T}{w:V}{s:String}(r:Rep A X h t w)(e:zj M t=some s):zi h w=some s:=by
 cases t with
 |v x=>cases qo r;cases w<;>first|exact e|(cases e;done)
 |cell n=>unfold Rep at r;obtain⟨a,ea,rfl⟩:=r;obtain⟨ts,vs,e1,e2,_⟩:=R.at_ n a ea;unfold zj at e;dsimp only at e;rw[e1]at e;cases e;unfold zi;dsimp only;rw[e2]
 |fz xs=>unfold Rep at r;obtain⟨a,vs,rfl,_,q,_⟩:=r;cases e;unfold zi;dsimp only;rw[q]
 |lst xs=>unfold Rep at r;obtain⟨a,vs,rfl,_,q,_⟩:=r;cases e;unfold zi;dsimp only;rw[q]
 |tup xs=>unfold Rep at r;obtain⟨a,vs,rfl,_,q,_⟩:=r;cases e;unfold zi;dsimp only;rw[q]
 |ob o=>cases o with
  |dct=>unfold Rep at r;obtain⟨a,rfl,_,q,_⟩:=r;cases e;unfold zi;dsimp only;rw[q]
  |exn c=>cases e
 |dt ks ts=>cases e
theorem Ju{ts:List T}{vs:List V}{lo hi:Option Int}(r:qJ A X h ts vs):qJ A X h (Q5 ts lo hi) (_L.cutV vs lo hi):=by
 have l:=qC (reps_iff.mp r);unfold Q5 _L.cutV;rw[l];exact reps_iff.mpr (jn _ (A7 _ (reps_iff.mp r)))
end
def u8(A X:List Nat)(h:AH):Option T->Option V->Prop
 |none,_=>True
 |some t,some w=>Rep A X h t w
 |some _,none=>False
abbrev jN(A X:List Nat)(h:AH):TS->List (Option V)->Prop:=QL (u8 A X h)
section
variable{gl:List T}{A X:List Nat}{h h':AH}{M M':Mem}{σ:TS}{σh:List (Option V)}
theorem F7{i:Nat}{t:T}(r:jN A X h σ σh)(e:σ[i]?=some (some t)):∃w,σh[i]?=some (some w)/\Rep A X h t w:=by
 obtain⟨o,e1,q⟩:=zE r e;cases o with
 |none=>exact q.elim
 |some w=>exact⟨w,e1,q⟩
theorem qu{A' X':List Nat}(hc:∀(n:Nat) a,A[n]?=some a->A'[n]?=some a)(hn:∀a o,a∉X->h[a]?=some o->a∉X'/\h'[a]?=some o)(r:jN A X h σ σh):jN A' X' h' σ σh:=
 Je (λx y q=>by
  cases x with
  |none=>trivial
  |some t=>cases y with
   |none=>exact q.elim
   |some w=>exact qm hc hn t q) r
theorem RelM.keepS(R:RelM gl A X h M)(f:Frm A h h')(r:jN A X h σ σh):jN A X h' σ σh:=qu (λ_ _ e=>e) (R.keepN f) r
theorem QD(r:jN A X h σ σh):∀src:List (Option Nat),jN A X h (zC src σ) (_L.inner src σh)
 | []=>rfl
 |none::src=>⟨none,_,rfl,trivial,QD r src⟩
 |some j::src=>by
  refine⟨(σh[j]?).join,_,rfl,?_,QD r src⟩;show u8 A X h (σ[j]?).join _;cases hj:σ[j]? with
  |none=>trivial
  |some o=>cases o with
   |none=>trivial
   |some t=>
    obtain⟨w,e1,q⟩:=F7 r hj;rw[e1];exact q
theorem Y2:∀{is:List Nat}{ts:List T}{ws:List V}{σ σ1:TS}{σh:List (Option V)},qCx is ts σ=some σ1->qJ A X h ts ws->jN A X h σ σh->∃σh1,Zk is ws σh=some σh1/\jN A X h σ1 σh1
 | [],[],ws,σ,σ1,σh,e,r,rs=>by unfold qJ at r;subst r;cases e;exact⟨σh,rfl,rs⟩
 | [],t::ts,ws,σ,σ1,σh,e,r,rs=>by cases e
 |i::is,[],ws,σ,σ1,σh,e,r,rs=>by cases e
 |i::is,t::ts,ws,σ,σ1,σh,e,r,rs=>by
  unfold qJ at r;obtain⟨w,ws',rfl,a,b⟩:=r;exact Y2 (is:=is) (show qCx is ts (σ.set i (some t))=some σ1 from e) b (qt i rs (show u8 A X h (some t) (some w) from a))
theorem jg{g:Tg}{t:T}{w:V}{σ1:TS}(e:zd g t σ=some σ1)(r:Rep A X h t w)(rs:jN A X h σ σh):∃σh1,store g w σh h=some σh1/\jN A X h σ1 σh1:=by
 cases g with
 |name i=>cases e;exact⟨σh.set i (some w),rfl,qt i rs (show u8 A X h (some t) (some w) from r)⟩
 |tup is=>
  cases t with
  |tup ts=>
   unfold Rep at r;obtain⟨a,vs,rfl,_,q,k⟩:=r;obtain⟨σh1,e1,r1⟩:=Y2 (show qCx is ts σ=some σ1 from e) k rs;refine⟨σh1,?_,r1⟩;show (match qT h a with|some xs=>_|none=>_)=_;rw[show qT h a=some vs by unfold qT;rw[q]];exact e1
  |_=>cases e
inductive QX(A X:List Nat)(h:AH):Src->List T->jq->Prop
 |list (a f vs ts):a∉X->h[a]?=some (.lst f vs)->qJ A X h ts vs->QX A X h (.list a) ts []
 |cell (n a vs ts):A[n]?=some a->h[a]?=some (.lst false vs)->qJ A X h ts vs->QX A X h (.list a) ts [(n,ts)]
 |tupl (a vs ts):a∉X->h[a]?=some (.tup vs)->qJ A X h ts vs->QX A X h (.tupl a) ts []
 |rng (lo n):QX A X h (.rng lo n) (qf lo n) []
 |zip (a b ts us d1 d2):QX A X h (.list a) ts d1->QX A X h (.list b) us d2->QX A X h (.zip a b) (List.zipWith (λx y=>T.tup [x,y]) ts us) (d1++d2)
theorem jG{d1 d2:jq}(e:qY (d1++d2) M=true):qY d1 M=true/\qY d2 M=true:=by
 unfold qY at e ⊢;rw[List.all_append,wE]at e;exact e
theorem JY{s:Src}{ts:List T}{d:jq}(r:QX A X h s ts d)(hn:∀a o,a∉X->h[a]?=some o->h'[a]?=some o)(R:RelM gl A X h' M')(hd:qY d M'=true):QX A X h' s ts d:=by
 induction r with
 |list a f vs ts q1 q2 q3=>exact .list a f vs ts q1 (hn _ _ q1 q2) (qH (λ_ _ e=>e) (λa o x y=>⟨x,hn a o x y⟩) ts q3)
 |cell n a vs ts q1 q2 q3=>
  obtain⟨ts',vs',e1,e2,e3⟩:=R.at_ n a q1;unfold qY at hd;simp only[List.all_cons,List.all_nil,vT]at hd;rw[e1]at hd;have:=jY _ _ hd;subst this;exact .cell n a vs' ts' q1 e2 e3
 |tupl a vs ts q1 q2 q3=>exact .tupl a vs ts q1 (hn _ _ q1 q2) (qH (λ_ _ e=>e) (λa o x y=>⟨x,hn a o x y⟩) ts q3)
 |rng lo n=>exact .rng lo n
 |zip a b ts us d1 d2 _ _ i1 i2=>exact .zip a b ts us d1 d2 (i1 (jG hd).1) (i2 (jG hd).2)
theorem Zg{A' X':List Nat}{s:Src}{ts:List T}{d:jq}(r:QX A X h s ts d)(hn:∀a o,a∉X->h[a]?=some o->a∉X'/\h'[a]?=some o)(R:RelM gl A' X' h' M')(hd:qY d M'=true)(hA:∀(n:Nat) a,A[n]?=some a->A'[n]?=some a:=by exact λ_ _ e=>e):QX A' X' h' s ts d:=by
 induction r with
 |list a f vs ts q1 q2 q3=>exact .list a f vs ts (hn _ _ q1 q2).1 (hn _ _ q1 q2).2 (qH hA hn ts q3)
 |cell n a vs ts q1 q2 q3=>
  obtain⟨ts',vs',e1,e2,e3⟩:=R.at_ n a (hA _ _ q1);unfold qY at hd;simp only[List.all_cons,List.all_nil,vT]at hd;rw[e1]at hd;have:=jY _ _ hd;subst this;exact .cell n a vs' ts' (hA _ _ q1) e2 e3
 |tupl a vs ts q1 q2 q3=>exact .tupl a vs ts (hn _ _ q1 q2).1 (hn _ _ q1 q2).2 (qH hA hn ts q3)
 |rng lo n=>exact .rng lo n
 |zip a b ts us d1 d2 _ _ i1 i2=>exact .zip a b ts us d1 d2 (i1 (jG hd).1) (i2 (jG hd).2)
theorem zU{a:Nat}{ts:List T}{d:jq}(r:QX A X h (.list a) ts d):∃vs,qL h a=some vs/\qJ A X h ts vs:=by
 cases r with
 |list _ f vs _ q1 q2 q3=>exact⟨vs,qO q2,q3⟩
 |cell n _ vs _ q1 q2 q3=>exact⟨vs,qO q2,q3⟩
theorem Zy{s:Src}{ts:List T}{d:jq}(r:QX A X h s ts d):J0 h s=some ts.length:=by
 cases r with
 |list a f vs ts q1 q2 q3=>show (qL h a).map _=_;rw[qO q2,Option.map_some,qC (reps_iff.mp q3)]
 |cell n a vs ts q1 q2 q3=>show (qL h a).map _=_;rw[qO q2,Option.map_some,qC (reps_iff.mp q3)]
 |tupl a vs ts q1 q2 q3=>show (qT h a).map _=_;rw[show qT h a=some vs by unfold qT;rw[q2],Option.map_some,qC (reps_iff.mp q3)]
 |rng lo n=>show some n=_;simp[qf]
 |zip a b ts us d1 d2 r1 r2=>
  obtain⟨vs,e1,k1⟩:=zU r1;obtain⟨ws,e2,k2⟩:=zU r2;show (match qL h a,qL h b with|some xs,some ys=>_|_,_=>_)=_;rw[e1,e2,vg,qC (reps_iff.mp k1),qC (reps_iff.mp k2)]
theorem ZJ{s:Src}{ts:List T}{d:jq}(r:QX A X h s ts d):jT h ts.length s=true:=by
 cases r with
 |list a f vs ts q1 q2 q3=>show (match qL h a with|some xs=>_|none=>_)=_;rw[qO q2,qC (reps_iff.mp q3)];simp
 |cell n a vs ts q1 q2 q3=>show (match qL h a with|some xs=>_|none=>_)=_;rw[qO q2,qC (reps_iff.mp q3)];simp
 |tupl a vs ts q1 q2 q3=>show (match qT h a with|some xs=>_|none=>_)=_;rw[show qT h a=some vs by unfold qT;rw[q2],qC (reps_iff.mp q3)];simp
 |rng lo n=>show decide _=_;simp[qf]
 |zip a b ts us d1 d2 r1 r2=>
  obtain⟨vs,e1,k1⟩:=zU r1;obtain⟨ws,e2,k2⟩:=zU r2;show (match qL h a,qL h b with|some xs,some ys=>_|_,_=>_)=_;rw[e1,e2,vg,qC (reps_iff.mp k1),qC (reps_iff.mp k2)];simp;omega
theorem QB(R:RelM gl A X h M){s:Src}{ts:List T}{d:jq}(r:QX A X h s ts d){i:Nat}{t:T}(ei:ts[i]?=some t):
  ∃w e,qj h i s=some (w,h++e)/\Rep A X (h++e) t w:=by
 cases r with
 |list a f vs ts q1 q2 q3=>
  obtain⟨w,ew,q⟩:=zE (reps_iff.mp q3) ei;refine⟨w,[],?_,by rw[wX];exact q⟩;show (match qL h a with|some xs=>_|none=>_)=_;rw[qO q2];dsimp only;rw[ew,wX];rfl
 |cell n a vs ts q1 q2 q3=>
  obtain⟨w,ew,q⟩:=zE (reps_iff.mp q3) ei;refine⟨w,[],?_,by rw[wX];exact q⟩;show (match qL h a with|some xs=>_|none=>_)=_;rw[qO q2];dsimp only;rw[ew,wX];rfl
 |tupl a vs ts q1 q2 q3=>
  obtain⟨w,ew,q⟩:=zE (reps_iff.mp q3) ei;refine⟨w,[],?_,by rw[wX];exact q⟩;show (match qT h a with|some xs=>_|none=>_)=_;rw[show qT h a=some vs by unfold qT;rw[q2]];dsimp only;rw[ew,wX];rfl
 |rng lo n=>
  have hi:i<n:=by have:=(wB.mp ei).1;simpa [qf] using this
  refine⟨.int (lo+(i:Int)),[],?_,?_⟩
  ·show (if i<n then _ else _)=_;rw[if_pos hi,wX]
  ·have:t=.v (.int (lo+(i:Int))):=by
    simp only[qf,wl,vh hi,Option.map_some,Option.some.injEq]at ei;exact ei.symm
   rw[this];unfold Rep;exact⟨rfl,rfl⟩
 |zip a b ts us d1 d2 r1 r2=>
  obtain⟨vs,e1,k1⟩:=zU r1;obtain⟨ws,e2,k2⟩:=zU r2;rw[List.getElem?_zipWith]at ei;cases et:ts[i]? with
  |none=>rw[et]at ei;cases ei
  |some x=>
   cases eu:us[i]? with
   |none=>rw[et,eu]at ei;cases ei
   |some y=>
    rw[et,eu]at ei;cases ei;obtain⟨v,ev,qv⟩:=zE (reps_iff.mp k1) et;obtain⟨w,ew,qw⟩:=zE (reps_iff.mp k2) eu;refine⟨.ref h.length,[.tup [v,w]],?_,?_⟩
    ·show (match qL h a,qL h b with|some xs,some ys=>_|_,_=>_)=_;rw[e1,e2];dsimp only;rw[ev,ew]
    ·have f:=Frm.app A h [O.tup [v,w]];unfold Rep;refine⟨_,[v,w],rfl,λz=>wf _ (R.lt _ z),by simp,?_⟩;unfold qJ;refine⟨v,[w],rfl,R.keep f qv,?_⟩;unfold qJ;exact⟨w,[],rfl,R.keep f qw,by unfold qJ;rfl⟩
theorem Frs.ofD(R:RelM gl A X h M){kvs:List (Int×V)}(r:Rep A X (h++[O.ob (.dct kvs)]) (.ob (.dct kvs)) (.ref h.length)):Frs gl A X h.length (h++[O.ob (.dct kvs)]) M (.ob (.dct kvs)) (.ref h.length):=
 ⟨[],by unfold Rep at r;unfold FP;exact⟨r,rfl⟩,vd,λa ha=>by simp at ha,by rw[wX];exact R.up _,λ_ _=>⟨h.length,rfl,wF _,R.addX λa=>by simp only[wL,wY];grind⟩⟩
theorem RelM.setX(R:RelM gl A X h M){D:Nat}(hD:D∈X)(hA:D∉A)(o:O):RelM gl A X (h.set D o) M:=by
 have hn:∀a o',a∉X->h[a]?=some o'->a∉X/\(h.set D o)[a]?=some o':=λa o' x y=>⟨x,by rw[wV (by rintro rfl;exact x hD)];exact y⟩
 refine⟨R.len,R.nd,R.sub,λa ha=>by simpa using R.lt a ha,λn a e=>?_,λg t e=>qm (λ_ _ e=>e) hn t (R.glo g t e)⟩;obtain⟨ts,vs,e1,e2,e3⟩:=R.at_ n a e;exact⟨ts,vs,e1,by rw[wV (by rintro rfl;exact hA (wS e))];exact e2,qH (λ_ _ e=>e) hn ts e3⟩
theorem Sim.bindW{α β α2 β2:Type}{X':List Nat}{h1:AH}{Q:α->β->AH->Mem->Prop}{Q2:α2->β2->AH->Mem->Prop}{r:PR (α×Mem)}{rh:Res (β×AH)}{f:α×Mem->PR (α2×Mem)}{g:β×AH->Res (β2×AH)}
  (hX:∀a∈X,a∈X') (hA:∀a∈A,a∈X) (f0:Frm A h1 h)
  (s:Sim gl A X' h Q r rh) (k:∀x M' y h',Frm A h h'->RelM gl A X' h' M'->Q x y h' M'->Sim gl A X h1 Q2 (f (x,M')) (g (y,h'))):Sim gl A X h1 Q2 (r.bind f) (rh.bind g):=by
 cases r with
 |ok p=>
  obtain⟨x,M'⟩:=p;obtain⟨y,h',rfl,f1,R1,q⟩:=s;exact k x M' y h' f1 R1 q
 |exc c M'=>
  obtain⟨h',rfl,f1,R1⟩:=s;exact⟨h',rfl,f0.trans f1,R1.weak hX hA⟩
 |stuck=>trivial
mutual
theorem qCu{X X':List Nat}{h:AH}:∀(t:T){w:V}{f g:List Nat},FP X h t w f->FP X' h t w g->f=g
 | .v x,w,f,g,p,q=>by unfold FP at p q;rw[p.2,q.2]
 | .cell n,w,f,g,p,q=>by unfold FP at p;exact p.elim
 | .fz ts,w,f,g,p,q=>by unfold FP at p;exact p.elim
 | .ob o,w,f,g,p,q=>by unfold FP at p q;rw[p.2,q.2]
 | .dt _ _,w,f,g,p,q=>by unfold FP at p;exact p.elim
 | .lst ts,w,f,g,p,q=>by
  unfold FP at p q;obtain⟨a,vs,f',rfl,_,e1,k1,rfl⟩:=p;obtain⟨b,us,g',e,_,e2,k2,rfl⟩:=q;cases e;rw[e1]at e2;cases e2;rw[JR ts k1 k2]
 | .tup ts,w,f,g,p,q=>by
  unfold FP at p q;obtain⟨a,vs,rfl,_,e1,k1⟩:=p;obtain⟨b,us,e,_,e2,k2⟩:=q;cases e;rw[e1]at e2;cases e2;exact JR ts k1 k2
theorem JR{X X':List Nat}{h:AH}:∀(ts:List T){ws:List V}{f g:List Nat},FPs X h ts ws f->FPs X' h ts ws g->f=g
 | [],w,f,g,p,q=>by unfold FPs at p q;rw[p.2,q.2]
 |t::ts,w,f,g,p,q=>by
  unfold FPs at p q;obtain⟨v,vs,f1,f2,rfl,a,b,rfl⟩:=p;obtain⟨v',vs',g1,g2,e,a',b',rfl⟩:=q;cases e;rw[qCu t a a',JR ts b b']
end
theorem G6:∀{ts:List T}{ws:List V}{fp f:List Nat}{t:T}{w:V},FPs X h ts ws fp->FP X h t w f->FPs X h (ts++[t]) (ws++[w]) (fp++f)
 | [],ws,fp,f,t,w,p,q=>by
  unfold FPs at p;obtain⟨rfl,rfl⟩:=p;show FPs X h [t] [w] f;unfold FPs;exact⟨w,[],f,[],rfl,q,by unfold FPs;exact⟨rfl,rfl⟩,by simp⟩
 |s::ts,ws,fp,f,t,w,p,q=>by
  unfold FPs at p;obtain⟨v,vs,f1,f2,rfl,a,b,rfl⟩:=p;show FPs X h (s::(ts++[t])) (v::(vs++[w])) _;unfold FPs;exact⟨v,vs++[w],f1,f2++f,rfl,a,G6 b q,by rw[wm]⟩
end
section
variable{gl:List T}{A X:List Nat}
theorem JM{s:Src}{its:List T}{d:jq}{g:Tg}{c:TS->Mem->PR (Bool×Mem)}{c':List (Option V)->AH->Res (Bool×AH)}{e:TS->Mem->PR (TB×Mem)}{e':List (Option V)->AH->RV}{D:Nat}{h1:AH}
  (hc:∀X h M σ σh,RelM gl A X h M->jN A X h σ σh->Sim gl A X h (λb b' _ _=>b=b') (c σ M) (c' σh h))
  (he:∀X h M σ σh,RelM gl A X h M->jN A X h σ σh->Sim gl A X h (QE gl A X h.length) (e σ M) (e' σh h))
  (hD:h1.length<=D) (hDX:D∉X) (hA:∀a∈A,a∈X):∀(r:List T) (i:Nat) (ys:List T) (ws:List V) (f:Bool) (fp:List Nat) (Y:List Nat) (σ:TS) (σh:List (Option V)) (M:Mem) (h:AH),
   its.drop i=r->i<=its.length->Y=D::X++fp->Frm A h1 h->RelM gl A Y h M->QX A Y h s its d->h[D]?=some (.lst false ws)->qJ A (D::X) h ys ws ->
   (f=true->FPs (D::X) h ys ws fp/\fp.Nodup/\∀a∈fp,h1.length<=a)->jN A Y h σ σh ->
   Sim gl A X h1 (QE gl A X h1.length) (qU d g c e r ys f σ M) (B5 s g c' e' D r.length i ws σh h)
 | [],i,ys,ws,f,fp,Y,σ,σh,M,h,hr,hi,hY,fm,R,sr,eD,ry,hf,rs=>by
  have hi':i=its.length:=by
   have:=vw.mp hr;omega
  subst hi';have hX:∀a∈X,a∈D::X:=λa z=>wI _ z;have hXY:∀a∈X,a∈Y:=λa z=>by rw[hY];simp[z]
  have hn:∀a o,a∉D::X->h[a]?=some o->a∉X/\h[a]?=some o:=λa o x y=>⟨λz=>x (hX _ z),y⟩
  refine⟨.ref D,h,?_,fm,R.weak hXY hA,?_,λe=>?_⟩
  ·show (if jT h its.length s then _ else _)=_;rw[if_pos (ZJ sr)]
  ·show Rep A X h (.lst ys) _;unfold Rep;exact⟨D,ws,rfl,hDX,eD,qH (λ_ _ e=>e) hn ys ry⟩
  ·obtain⟨p,nd,l⟩:=hf e;refine⟨fp++[D],?_,?_,?_,?_⟩
   ·show FP X h (.lst ys) _ _;unfold FP;exact⟨D,ws,fp,rfl,hDX,eD,zZ hn ys p,rfl⟩
   ·rw[vE];refine⟨nd,by simp,?_⟩;rintro a ha b hb rfl;simp at hb;exact(QA ys p a ha).1 (by rw[hb];exact wN ..)
   ·intro a ha;rcases wL.mp ha with z|z
    ·exact l a z
    ·simp at z;omega
   ·refine⟨R.weak (λa z=>?_) λa z=>wQ _ (hA a z),New.lst⟩;rw[hY];simp only[wL,wP,wY]at z ⊢
    grind
 |x::r,i,ys,ws,f,fp,Y,σ,σh,M,h,hr,hi,hY,fm,R,sr,eD,ry,hf,rs=>by
  have hXY:∀a∈X,a∈Y:=λa z=>by rw[hY];simp[z]
  have hDY:D∈Y:=by rw[hY];simp
  have hDXY:∀a∈D::X,a∈Y:=λa z=>by rw[hY];exact wQ _ z
  have hDA:D∉A:=λz=>hDX (hA D z);have ex:its[i]?=some x:=by
   have:(its.drop i)[0]?=some x:=by rw[hr];rfl
   rwa [vY,Nat.add_zero]at this
  have hi2:i+1<=its.length:=(wB.mp ex).1;have hr2:its.drop (i+1)=r:=by
   rw[<-List.drop_drop,hr];rfl
  obtain⟨w,ext,ey,rx⟩:=QB R sr ex;have fy:Frm A h (h++ext):=Frm.app A h ext;rw[List.length_cons];unfold qU B5;rw[ey];dsimp only;cases es:zd g x σ with
  |none=>exact Sim.stuck
  |some σ1=>
   obtain⟨σh1,esh,rs1⟩:=jg es rx (R.keepS fy rs);rw[esh];dsimp only;refine Sim.bindW hXY hA (fm.trans fy) (hc _ _ _ _ _ (R.up ext) rs1) ?_;rintro b M2 b' h2 f2 R2 rfl;have k2:Frm A h h2:=fy.trans f2;have eD2:h2[D]?=some (.lst false ws):=(k2.2 D (qG eD) hDA).trans eD;have kN:∀{h':AH},Frm A h h'->∀a o,a∉D::X->h[a]?=some o->a∉D::X/\h'[a]?=some o:=λf' a o x y=>⟨x,(f'.2 a (qG y) λz=>x (wI _ (hA _ z))).trans y⟩
   cases b with
   |true=>
    simp only[if_true];refine Sim.bindW hXY hA (fm.trans k2) (he _ _ _ _ _ R2 ((R.up ext).keepS f2 rs1)) ?_;intro y M3 w3 h3 f3 R3 q3;have k3:Frm A h h3:=k2.trans f3;have eD3:h3[D]?=some (.lst false ws):=(k3.2 D (qG eD) hDA).trans eD;have lw:ys.length=ws.length:=qC (reps_iff.mp ry);dsimp only;by_cases hl:ys.length<lim/\qY d M3=true
    ·rw[if_pos hl,if_pos ⟨eD3,by rw[<-lw];exact hl.1⟩];have hs:∀(Z:List Nat),D∈Z->∀a o,a∉Z->h3[a]?=some o->a∉Z/\(h3.set D (.lst false (ws++[w3])))[a]?=some o:=λZ hZ a o x y=>⟨x,by rw[wV (by rintro rfl;exact x hZ)];exact y⟩
     have hnD:∀a o,a∉D::X->h[a]?=some o->a∉D::X/\(h3.set D (.lst false (ws++[w3])))[a]?=some o:=λa o x y=>hs _ (wN ..) a o x (kN k3 a o x y).2;have ry4:qJ A (D::X) (h3.set D (.lst false (ws++[w3]))) (ys++[y.1]) (ws++[w3]):=
      reps_iff.mpr (zD (reps_iff.mp (qH (λ_ _ e=>e) hnD ys ry)) ⟨w3,[],rfl,qm (λ_ _ e=>e) (λa o x y=>hs _ (wN ..) a o x y) _ (qm (λ_ _ e=>e) (λa o x y=>⟨λz=>x (hDXY _ z),y⟩) _ q3.1),rfl⟩)
     obtain⟨fp2,hp2,R3',hlt2⟩:∃fp2:List Nat,(y.2=true->FP Y h3 y.1 w3 fp2/\fp2.Nodup)/\RelM gl A (Y++fp2) h3 M3/\∀a∈fp2,h2.length<=a:=by
      cases hy2:y.2 with
      |true=>
       obtain⟨fp2,a,b,c,d,_⟩:=q3.2 hy2;exact⟨fp2,λ_=>⟨a,b⟩,d,c⟩
      |false=>exact⟨[],(λz=>by cases z),by rw[wX];exact R3,λa ha=>by simp at ha⟩
     have old:∀{Z:List Nat}(_:∀a∈Y,a∈Z) (a:Nat) o,a∉Y->h2[a]?=some o->a∉Y++fp2:=λ_ a o x y=>by
      rw[wL];rintro(z|z)
      ·exact x z
      ·have:=hlt2 a z;have:=qG y;omega
     have R4:=R3'.setX (wQ _ hDY) hDA (.lst false (ws++[w3]));have hnY:∀a o,a∉Y->h[a]?=some o->a∉Y++fp2/\(h3.set D (.lst false (ws++[w3])))[a]?=some o:=λa o x y=>⟨old (λ_ z=>z) a o x (R.keepN k2 a o x y).2,(hs Y hDY a o x (R.keepN k3 a o x y).2).2⟩
     have hn2:∀a o,a∉Y->h2[a]?=some o->a∉Y++fp2/\(h3.set D (.lst false (ws++[w3])))[a]?=some o:=λa o x y=>⟨old (λ_ z=>z) a o x y,(hs Y hDY a o x (R2.keepN f3 a o x y).2).2⟩
     refine JM hc he hD hDX hA r (i+1) (ys++[y.1]) (ws++[w3]) (f&&y.2) (fp++fp2) (Y++fp2) σ1 σh1 M3 _ hr2 hi2 (by rw[hY,wm]) ((fm.trans k3).set (.inr hD) _) R4 ?_ ?_ ry4 ?_ ?_
     ·exact Zg sr hnY R4 hl.2
     ·rw[wZ (qG eD3)]
     ·intro ef;rw[wE]at ef;obtain⟨p1,nd1,l1⟩:=hf ef.1;obtain⟨p2,nd2⟩:=hp2 ef.2;refine⟨G6 (zZ hnD ys p1) (Zj (λa o x y=>hs _ (wN ..) a o x y) _ (Zj (λa o x y=>⟨λz=>x (hDXY _ z),y⟩) _ p2)),?_,?_⟩
      ·rw[vE];refine⟨nd1,nd2,?_⟩;rintro a ha b hb rfl;exact(J7 y.1 p2 a hb).1 (by rw[hY];exact wT _ ha)
      ·intro a ha;rcases wL.mp ha with z|z
       ·exact l1 a z
       ·have:=hlt2 a z;have:=(fm.trans k2).1;omega
     ·exact qu (λ_ _ e=>e) hn2 ((R.up ext).keepS f2 rs1)
    ·rw[if_neg hl];exact Sim.stuck
   |false=>
    dsimp only;simp only[vK,if_false];by_cases hl:qY d M2=true
    ·rw[if_pos hl,if_pos eD2];exact JM hc he hD hDX hA r (i+1) ys ws f fp Y σ1 σh1 M2 h2 hr2 hi2 hY (fm.trans k2) R2 (JY sr (λa o x y=>(R.keepN k2 a o x y).2) R2 hl) eD2 (qH (λ_ _ e=>e) (kN k2) ys ry)
      (λef=>by obtain⟨a,b,c⟩:=hf ef;exact⟨zZ (kN k2) ys a,b,c⟩) ((R.up ext).keepS f2 rs1)
    ·rw[if_neg hl];exact Sim.stuck
end
section
variable{gl:List T}{A X:List Nat}{h h':AH}{M M':Mem}
theorem v7{X':List Nat}{s:Src}{ts:List T}{d:jq}(r:QX A X h s ts d)(hn:∀a o,a∉X->h[a]?=some o->a∉X'/\h'[a]?=some o)(hc:∀(n:Nat) a o,A[n]?=some a->h[a]?=some o->h'[a]?=some o):QX A X' h' s ts d:=by
 induction r with
 |list a f vs ts q1 q2 q3=>exact .list a f vs ts (hn _ _ q1 q2).1 (hn _ _ q1 q2).2 (qH (λ_ _ e=>e) hn ts q3)
 |cell n a vs ts q1 q2 q3=>exact .cell n a vs ts q1 (hc n a _ q1 q2) (qH (λ_ _ e=>e) hn ts q3)
 |tupl a vs ts q1 q2 q3=>exact .tupl a vs ts (hn _ _ q1 q2).1 (hn _ _ q1 q2).2 (qH (λ_ _ e=>e) hn ts q3)
 |rng lo n=>exact .rng lo n
 |zip a b ts us d1 d2 _ _ i1 i2=>exact .zip a b ts us d1 d2 i1 i2
theorem P6{n:Nat}{r:PR (TB×Mem)}{rh:RV}(s:Sim gl A X h (QE gl A X n) r rh):Sim gl A X h (λb b' _ _=>b=b') (pB r) (asB rh):=by
 refine Sim.bind s ?_;intro x M1 w h1 f1 R1 q1;obtain⟨t,fr⟩:=x;dsimp only;split
 ·rename_i b;cases qo q1.1;exact⟨_,h1,rfl,Frm.refl A h1,R1,rfl⟩
 ·exact Sim.stuck
theorem JV:∀(xs:List V),T.lfs (xs.map .v)=true
 | []=>rfl
 |x::xs=>by show (T.lf (.v x)&&T.lfs (xs.map .v))=true;rw[JV xs];rfl
theorem N7(lo:Int)(n:Nat):T.lfs (qf lo n)=true:=by
 have e:qf lo n=(jS lo n).map .v:=by unfold qf jS;rw[vL];rfl
 rw[e];exact JV _
theorem jk{A X:List Nat}{h:AH}:∀{xs:List V},xs.all flat=true->qJ A X h (xs.map .v) xs
 | [],_=>by show qJ A X h [] [];unfold qJ;rfl
 |x::xs,f=>by
  rw[List.all_cons,wE]at f;show qJ A X h (.v x::xs.map .v) _;unfold qJ;exact⟨x,xs,rfl,by unfold Rep;exact⟨rfl,f.1⟩,jk f.2⟩
theorem y9(R:RelM gl A X h M){m:Mt}{n p:Nat}{ts:List T}{ws:List V}(ep:A[n]?=some p)(rs:qJ A X h ts ws):Sim gl A X h (QE gl A X h.length) (tH (JW m n ts M)) (S3 m p ws h):=by
 obtain⟨ts2,vs2,g1,g2,g3⟩:=R.at_ n p ep;have hm:qg h p=some vs2:=by unfold qg;rw[g2]
 have l:=qC (reps_iff.mp g3);cases em:JW m n ts M with
 |none=>exact Sim.stuck
 |some r=>
  unfold JW at em;split at em
  ·unfold qJ at rs;subst rs;rw[g1]at em;cases em;show Sim _ _ _ _ _ _ (match qg h p with|some xs=>_|none=>_);rw[hm];obtain⟨R4,f4⟩:=R.put (ts:=[]) (vs:=[]) ep (by unfold qJ;rfl);have r:Rep A X (h.set p (.lst false [])) (.v .non) .non:=by unfold Rep;exact⟨rfl,rfl⟩
   exact⟨_,_,rfl,f4,R4,r,λe=>Frs.of_lf R4 r e⟩
  ·cases em
theorem K4{A X:List Nat}{h:AH}{i:Int}{t:T}:∀{ks:List Int}{ts:List T}{vs:List V},qJ A X h ts vs->p0 ks ts i=some t->∃v,m4 (ks.zip vs) i=some v/\Rep A X h t v
 | [],_,_,_,e=>by cases e
 |_::_,[],_,_,e=>by cases e
 |k::ks,u::ts,vs,r,e=>by
  unfold qJ at r;obtain⟨v,vs',rfl,r1,r2⟩:=r;unfold p0 at e;rw[List.zip_cons_cons];unfold m4;rw[List.find?_cons];dsimp only;by_cases z:k=i
  ·rw[if_pos z]at e;cases e;rw[uG z];exact⟨v,rfl,r1⟩
  ·rw[if_neg z]at e;rw[uF z];exact K4 r2 e
theorem qCn{t:T}{q:List Int×List T}(e:t.dts=some q):t=.dt q.1 q.2:=by cases t<;>cases e;rfl
theorem qAz(R:RelM gl A X h M){t:T}{w:V}{s:List T×jq}(r:Rep A X h t w)(e:JU M t=some s):∃p sh,w=.ref p/\(match h[p]? with|some (.lst _ _)=>Res.ok (Src.list p,h)|some (.tup _)=>.ok (.tupl p,h)|_=>.stuck)=.ok (sh,h)/\QX A X h sh s.1 s.2:=by
 cases t with
 |v x=>cases e
 |cell n=>
  unfold Rep at r;obtain⟨a,ea,rfl⟩:=r;obtain⟨ts,vs,e1,e2,e3⟩:=R.at_ n a ea;unfold JU at e;dsimp only at e;rw[e1]at e;cases e;exact⟨a,_,rfl,by rw[e2],.cell n a vs ts ea e2 e3⟩
 |fz xs=>unfold Rep at r;obtain⟨a,vs,rfl,q,k,z⟩:=r;cases e;exact⟨a,_,rfl,by rw[k],.list a true vs xs q k z⟩
 |lst xs=>unfold Rep at r;obtain⟨a,vs,rfl,q,k,z⟩:=r;cases e;exact⟨a,_,rfl,by rw[k],.list a false vs xs q k z⟩
 |tup xs=>unfold Rep at r;obtain⟨a,vs,rfl,q,k,z⟩:=r;cases e;exact⟨a,_,rfl,by rw[k],.tupl a vs xs q k z⟩
 |ob o=>cases e
 |dt ks ts=>cases e
theorem S5(R:RelM gl A X h M){t:T}{w:V}{s:List T×jq}(r:Rep A X h t w)(e:l7 M t=some s):∃p vs,w=.ref p/\qL h p=some vs/\QX A X h (.list p) s.1 s.2:=by
 cases t with
 |v x=>cases e
 |cell n=>
  unfold Rep at r;obtain⟨a,ea,rfl⟩:=r;obtain⟨ts,vs,e1,e2,e3⟩:=R.at_ n a ea;unfold l7 at e;dsimp only at e;rw[e1]at e;cases e;exact⟨a,_,rfl,qO e2,.cell n a vs ts ea e2 e3⟩
 |fz xs=>unfold Rep at r;obtain⟨a,vs,rfl,q,k,z⟩:=r;cases e;exact⟨a,_,rfl,qO k,.list a true vs xs q k z⟩
 |lst xs=>unfold Rep at r;obtain⟨a,vs,rfl,q,k,z⟩:=r;cases e;exact⟨a,_,rfl,qO k,.list a false vs xs q k z⟩
 |tup xs=>cases e
 |ob o=>cases e
 |dt ks ts=>cases e
theorem QEs.len{n:Nat}{xs:List TB}{ws:List V}(q:QEs gl A X n xs ws h M):xs.length=ws.length:=by
 have:=qC (reps_iff.mp q.1);simpa using this
end
section
variable{gl:List T}{P:Nat->List T->Mem->PR (TB×Mem)}{F:Nat->List V->AH->RV}
variable (hF:∀f ts ws A X h M,RelM gl A X h M->qJ A X h ts ws->Sim gl A X h (QE gl A X h.length) (P f ts M) (F f ws h))
include hF
mutual
theorem qQ:∀(e:E) (A X:List Nat) (h:AH) (M:Mem) (σ:TS) (σh:List (Option V)),RelM gl A X h M->jN A X h σ σh->Sim gl A X h (QE gl A X h.length) (pe gl P e σ M) (ev F e σh h)
 | .var i,A,X,h,M,σ,σh,R,rs=>by
  rw[pe,ev];dsimp only;split
  ·rename_i t e;obtain⟨w,ew,r⟩:=F7 rs e;rw[ew];exact Zt R r
  ·exact Sim.stuck
 | .dnew,A,X,h,M,σ,σh,R,rs=>by
  unfold pe ev;have r:Rep A X (h++[O.ob (.dct [])]) (.ob (.dct [])) (.ref h.length):=by
   unfold Rep;exact⟨h.length,rfl,λz=>by have:=R.lt _ z;omega,by simp,rfl⟩
  exact⟨_,_,rfl,Frm.app A h _,R.up _,r,λ_=>Frs.ofD R r⟩
 | .cst v,A,X,h,M,σ,σh,R,rs=>by
  rw[pe,ev];dsimp only;split
  ·rename_i e;exact qF R e
  ·exact Sim.stuck
 | .glob g,A,X,h,M,σ,σh,R,rs=>by
  rw[pe,ev];dsimp only;split
  ·rename_i t e;exact Zt R (R.glo g t e)
  ·exact Sim.stuck
 | .bin op a b,A,X,h,M,σ,σh,R,rs=>by
  rw[pe,ev];dsimp only;refine Sim.bind (qQ a A X h M σ σh R rs) ?_;intro x M1 v h1 f1 R1 q1;dsimp only;refine Sim.bind (qQ b A X h1 M1 σ σh R1 (R.keepS f1 rs)) ?_;intro y M2 w h2 f2 R2 q2;dsimp only;exact tJ λr er=>(qBV R2 er (R1.keep f2 q1.1) q2.1).le (wH f1.1 f2.1)
 | .neg a,A,X,h,M,σ,σh,R,rs=>by
  rw[pe,ev];dsimp only;refine Sim.bind (qQ a A X h M σ σh R rs) ?_;intro x M1 v h1 f1 R1 q1;dsimp only;obtain⟨t,fr⟩:=x;dsimp only;split
  ·cases qo q1.1;exact qF R1 rfl
  ·exact Sim.stuck
 | .cmp op a b,A,X,h,M,σ,σh,R,rs=>by
  rw[pe,ev];dsimp only;refine Sim.bind (qQ a A X h M σ σh R rs) ?_;intro x M1 v h1 f1 R1 q1;dsimp only;refine Sim.bind (qQ b A X h1 M1 σ σh R1 (R.keepS f1 rs)) ?_;intro y M2 w h2 f2 R2 q2;dsimp only;refine tJ λr er=>?_;unfold qB7;rw[C3 R2 (R1.keep f2 q1.1) q2.1 er];exact qF R2 rfl
 | .cmp2 o1 o2 a b c,A,X,h,M,σ,σh,R,rs=>by
  rw[pe,ev];dsimp only;refine Sim.bind (qQ a A X h M σ σh R rs) ?_;intro x M1 v h1 f1 R1 q1;dsimp only;refine Sim.bind (qQ b A X h1 M1 σ σh R1 (R.keepS f1 rs)) ?_;intro y M2 w h2 f2 R2 q2;dsimp only;refine tJ λr er=>?_;rw[C3 R2 (R1.keep f2 q1.1) q2.1 er];cases r with
  |true=>
   simp only[if_true];refine Sim.bind (qQ c A X h2 M2 σ σh R2 (R1.keepS f2 (R.keepS f1 rs))) ?_;intro z M3 u h3 f3 R3 q3;dsimp only;refine tJ λr er=>?_;unfold qB7;rw[C3 R3 (R2.keep f3 q2.1) q3.1 er];exact qF R3 rfl
  |false=>exact qF R2 rfl
 | .and a b,A,X,h,M,σ,σh,R,rs=>by
  rw[pe,ev];dsimp only;refine Sim.bind (P6 (qQ a A X h M σ σh R rs)) ?_;rintro x M1 v h1 f1 R1 rfl;dsimp only;cases x with
  |true=>simp only[if_true];exact(qQ b A X h1 M1 σ σh R1 (R.keepS f1 rs)).le f1.1
  |false=>exact qF R1 rfl
 | .or a b,A,X,h,M,σ,σh,R,rs=>by
  rw[pe,ev];dsimp only;refine Sim.bind (P6 (qQ a A X h M σ σh R rs)) ?_;rintro x M1 v h1 f1 R1 rfl;dsimp only;cases x with
  |false=>simp only[vK,if_false];exact(qQ b A X h1 M1 σ σh R1 (R.keepS f1 rs)).le f1.1
  |true=>exact qF R1 rfl
 | .not a,A,X,h,M,σ,σh,R,rs=>by
  rw[pe,ev];dsimp only;refine Sim.bind (P6 (qQ a A X h M σ σh R rs)) ?_;rintro x M1 v h1 f1 R1 rfl;dsimp only;exact qF R1 rfl
 | .ite c a b,A,X,h,M,σ,σh,R,rs=>by
  rw[pe,ev];dsimp only;refine Sim.bind (P6 (qQ c A X h M σ σh R rs)) ?_;rintro x M1 v h1 f1 R1 rfl;dsimp only;cases x with
  |true=>simp only[if_true];exact(qQ a A X h1 M1 σ σh R1 (R.keepS f1 rs)).le f1.1
  |false=>simp only[vK,if_false];exact(qQ b A X h1 M1 σ σh R1 (R.keepS f1 rs)).le f1.1
 | .call f as,A,X,h,M,σ,σh,R,rs=>by
  rw[pe,ev];dsimp only;refine Sim.bind (jh as A X h M σ σh R rs) ?_;intro x M1 v h1 f1 R1 q1;dsimp only;exact(hF f _ _ A X h1 M1 R1 q1.1).nx.le f1.1
 | .blt f as,A,X,h,M,σ,σh,R,rs=>by
  rw[pe,ev];dsimp only;refine Sim.bind (jh as A X h M σ σh R rs) ?_;intro x M1 v h1 f1 R1 q1;dsimp only;exact tJ λr er=>(qBp R1 q1.1 er).le f1.1
 | .isi a ts,A,X,h,M,σ,σh,R,rs=>by
  rw[pe,ev];dsimp only;refine Sim.bind (qQ a A X h M σ σh R rs) ?_;intro x M1 v h1 f1 R1 q1;dsimp only;refine tJ λr er=>?_;rw[z8 R1 q1.1 er];exact qF R1 rfl
 | .idx a b,A,X,h,M,σ,σh,R,rs=>by
  rw[pe,ev];dsimp only;refine Sim.bind (qQ a A X h M σ σh R rs) ?_;intro x M1 v h1 f1 R1 q1;dsimp only;refine Sim.bind (qQ b A X h1 M1 σ σh R1 (R.keepS f1 rs)) ?_;intro y M2 w h2 f2 R2 q2;dsimp only;refine tJ λr er=>?_;obtain⟨ty,fy⟩:=y;unfold Jd at er;dsimp only at er;split at er
  ·rename_i i;cases qo q2.1;obtain⟨xs,e1,er⟩:=wK.mp er;obtain⟨j,e2,er⟩:=wK.mp er;obtain⟨t,e3,rfl⟩:=wA.mp er;obtain⟨p,vs,rfl,k1,k2⟩:=L0 R2 (R1.keep f2 q1.1) e1;obtain⟨u,e4,k3⟩:=zE (reps_iff.mp k2) e3;dsimp only;rw[k1];dsimp only;rw[<-qC (reps_iff.mp k2),e2];dsimp only[Option.bind_some];rw[e4];exact Zt R2 k3
  ·cases er
 | .index a b,A,X,h,M,σ,σh,R,rs=>by
  rw[pe,ev];dsimp only;refine Sim.bind (qQ a A X h M σ σh R rs) ?_;intro x M1 v h1 f1 R1 q1;dsimp only;refine tJ λxs ex=>?_;obtain⟨p,vs,rfl,k1,k2⟩:=qAi R1 q1.1 ex;dsimp only[i8];rw[k1];dsimp only;refine Sim.bind (qQ b A X h1 M1 σ σh R1 (R.keepS f1 rs)) ?_;intro y M2 w h2 f2 R2 q2;dsimp only;refine tJ λr er=>?_;unfold ZY at er;obtain⟨c,ec,er⟩:=wK.mp er;obtain⟨ts,et,er⟩:=wK.mp er;obtain⟨zs,ez,er⟩:=wK.mp er;obtain⟨j,ej,rfl⟩:=wA.mp er;obtain⟨y1,y2⟩:=y;dsimp only at ec q2;cases qX ec;cases qo q2.1;obtain⟨p',vs',hp',k1',k2'⟩:=qAi R2 (R1.keep f2 q1.1) et;cases hp';obtain⟨rfl,kk⟩:=JK k2' ez;have fx:=jZ q2.1;unfold L8;rw[k1'];dsimp only;rw[if_pos (by rw[fx,kk];rfl),ej];exact qF R2 rfl
 | .sl a lo hi,A,X,h,M,σ,σh,R,rs=>by
  rw[pe,ev];dsimp only;refine Sim.bind (qQ a A X h M σ σh R rs) ?_;intro x M1 v h1 f1 R1 q1;dsimp only;refine Sim.bind (jh lo A X h1 M1 σ σh R1 (R.keepS f1 rs)) ?_;intro y M2 w h2 f2 R2 q2;dsimp only;refine Sim.bind (jh hi A X h2 M2 σ σh R2 (R1.keepS f2 (R.keepS f1 rs))) ?_;intro z M3 u h3 f3 R3 q3;dsimp only;refine tJ λxs ex=>tJ λl el=>tJ λm em=>?_;rw[jt (R2.keeps f3 q2.1) el,jt q3.1 em];have rp:=R2.keep f3 (R1.keep f2 q1.1);refine tJ λr er=>?_;refine Sim.le ?_ (wH f1.1 (wH f2.1 f3.1));obtain⟨x1,x2⟩:=x;dsimp only at ex er rp ⊢;cases x1 with
  |v x=>cases ex
  |ob o=>cases ex
  |dt ks ts=>cases ex
  |cell n=>cases er;obtain⟨p,vs,f,rfl,k1,k2⟩:=zb R3 rp ex;dsimp only;rw[qO k1];exact O0 R3 (Ju k2)
  |fz xs=>cases er;obtain⟨p,vs,f,rfl,k1,k2⟩:=zb R3 rp ex;dsimp only;rw[qO k1];exact O0 R3 (Ju k2)
  |lst xs=>cases er;obtain⟨p,vs,f,rfl,k1,k2⟩:=zb R3 rp ex;dsimp only;rw[qO k1];exact O0 R3 (Ju k2)
  |tup ts=>
   cases ex;unfold Rep at rp;obtain⟨a,vs,rfl,_,q,kk⟩:=rp;have ln:=qC (reps_iff.mp kk);dsimp only;rw[show qL h3 a=none by unfold qL;rw[q],show qT h3 a=some vs by unfold qT;rw[q]];dsimp only;unfold p9 at er;dsimp only at er;rw[ln]at er;split at er
   ·cases er
   ·rename_i hw;cases er;rw[if_neg hw];exact E8 R3 (Ju kk) λe=>Frss.of_lf R3 (Ju kk) e
 | .lst as,A,X,h,M,σ,σh,R,rs=>by
  rw[pe,ev];dsimp only;refine Sim.bind (jh as A X h M σ σh R rs) ?_;intro x M1 v h1 f1 R1 q1;dsimp only;rw[<-q1.len];split
  ·exact JJ R1 q1.1 f1.1 q1.2
  ·exact Sim.stuck
 | .tup as,A,X,h,M,σ,σh,R,rs=>by
  rw[pe,ev];dsimp only;refine Sim.bind (jh as A X h M σ σh R rs) ?_;intro x M1 v h1 f1 R1 q1;dsimp only;rw[<-q1.len];split
  ·exact E8 R1 q1.1 q1.2
  ·exact Sim.stuck
 | .comp it src g c e,A,X,h,M,σ,σh,R,rs=>by
  rw[pe,ev];dsimp only;refine Sim.bind (W5 it A X h M σ σh R rs) ?_;intro s M1 sh h1 f1 R1 q1;dsimp only;have hn:∀a o,a∉X->h1[a]?=some o->a∉h1.length::X/\(h1++[O.lst false []])[a]?=some o:=λa o x y=>⟨by
   rw[wP];rintro(z|z)
   ·have:=qG y;omega
   ·exact x z,by rw[wC (qG y)];exact y⟩
  have sr:QX A (h1.length::X) (h1++[O.lst false []]) sh s.1 s.2:=v7 q1 hn λn a o _ y=>by rw[wC (qG y)];exact y
  rw[Zy sr];dsimp only;refine(JM (its:=s.1) (λX h M σ σh R rs=>qDp c A X h M σ σh R rs) (λX h M σ σh R rs=>qQ e A X h M σ σh R rs) (wF h1.length) (λz=>wf _ (R1.lt _ z)) R1.sub s.1 0 [] [] true [] (h1.length::X) _ _ M1 _ rfl (vM _) (by simp) (Frm.app A h1 _) (R1.addX λa=>wP) sr (by simp) (by unfold qJ;rfl) ?_ ?_).le f1.1
  ·exact λ_=>⟨by unfold FPs;exact⟨rfl,rfl⟩,vd,λa ha=>by simp at ha⟩
  ·exact qu (λ_ _ e=>e) hn (QD (R.keepS f1 rs) src)
 | .app a b,A,X,h,M,σ,σh,R,rs=>by
  rw[pe,ev];dsimp only;refine Sim.bind (qQ a A X h M σ σh R rs) ?_;intro x M1 v h1 f1 R1 q1;dsimp only;obtain⟨t,fr⟩:=x;dsimp only;split
  ·rename_i n;have q:=q1.1;unfold Rep at q;obtain⟨p,ep,rfl⟩:=q;obtain⟨ts,vs,e1,e2,e3⟩:=R1.at_ n p ep;dsimp only;rw[qO e2];dsimp only;refine Sim.bind (qQ b A X h1 M1 σ σh R1 (R.keepS f1 rs)) ?_;intro y M2 w h2 f2 R2 q2;dsimp only;obtain⟨ts2,vs2,g1,g2,g3⟩:=R2.at_ n p ep;rw[g1,show qg h2 p=some vs2 by unfold qg;rw[g2]];dsimp only;rw[<-qC (reps_iff.mp g3)];split
   ·have r1:QL (Rep A X h2) [y.1] [w]:=⟨w,[],rfl,q2.1,rfl⟩
    obtain⟨R4,f4⟩:=R2.put ep (reps_iff.mpr (zD (reps_iff.mp g3) r1));have r:Rep A X (h2.set p (.lst false (vs2++[w]))) (.v .non) .non:=by unfold Rep;exact⟨rfl,rfl⟩
    exact⟨.non,_,rfl,f4,R4,r,λ_=>Frs.of_lf R4 r rfl⟩
   ·exact Sim.stuck
  ·exact Sim.stuck
 | .sset a,A,X,h,M,σ,σh,R,rs=>by
  rw[pe,ev];dsimp only;refine Sim.bind (qQ a A X h M σ σh R rs) ?_;intro x M1 v h1 f1 R1 q1;dsimp only;obtain⟨t,fr⟩:=x;dsimp only;split
  ·rename_i is eis;obtain⟨xs,ex,ei⟩:=wK.mp eis;obtain⟨b,vs,f,rfl,g1,g2⟩:=zb R1 q1.1 ex;dsimp only;rw[qO g1];dsimp only;rw[jt g2 ei];dsimp only;split
   ·have rr:=JZ (A:=A) (X:=X) (h:=h1) (QJ (uniq is));exact JJ R1 rr f1.1 λe=>Frss.of_lf R1 rr (J9 _)
   ·exact Sim.stuck
  ·exact Sim.stuck
 | .nset a,A,X,h,M,σ,σh,R,rs=>by
  rw[pe,ev];dsimp only;refine Sim.bind (qQ a A X h M σ σh R rs) ?_;intro x M1 v h1 f1 R1 q1;dsimp only;obtain⟨t,fr⟩:=x;dsimp only;split
  ·rename_i is eis;obtain⟨xs,ex,ei⟩:=wK.mp eis;obtain⟨b,vs,f,rfl,g1,g2⟩:=zb R1 q1.1 ex;dsimp only;rw[qO g1];dsimp only;rw[jt g2 ei];dsimp only;split
   ·exact(qF R1 rfl).le f1.1
   ·exact Sim.stuck
  ·exact Sim.stuck
 | .dix a b,A,X,h,M,σ,σh,R,rs=>by
  rw[pe,ev];dsimp only;refine Sim.bind (qQ a A X h M σ σh R rs) ?_;intro x M1 v h1 f1 R1 q1;dsimp only;refine(Sim.bind (qQ b A X h1 M1 σ σh R1 (R.keepS f1 rs)) ?_).le f1.1;intro y M2 w h2 f2 R2 q2;dsimp only;refine tJ λr er=>?_;obtain⟨y1,y2⟩:=y;dsimp only at er;unfold qCE at er;split at er
  ·rename_i i;cases qo q2.1;split at er
   ·rename_i dq hdq;obtain⟨t0,et,er⟩:=wA.mp er;cases er;have rx:=R1.keep f2 q1.1;rw[qCn hdq]at rx;unfold Rep at rx;obtain⟨p,vs,rfl,_,q4,_,k4⟩:=rx;obtain⟨v0,ev0,r0⟩:=K4 k4 et;have d0:zz h2 p=some (dq.1.zip vs):=by unfold zz;rw[q4]
    show Sim _ _ _ _ _ _ (match zz h2 p with|some kvs=>_|none=>_);rw[d0];dsimp only;rw[ev0];dsimp only;exact Zt R2 r0
   obtain⟨kvs,ek,er⟩:=wK.mp er;obtain⟨vv,ev',er⟩:=wK.mp er;split at er
   ·rename_i fv;cases er;obtain⟨p,rfl,q3,q4,_⟩:=d7 ek (R1.keep f2 q1.1);have d0:zz h2 p=some kvs:=by unfold zz;rw[q4]
    show Sim _ _ _ _ _ _ (match zz h2 p with|some kvs=>_|none=>_);rw[d0];dsimp only;rw[ev'];dsimp only;exact(qF R2 fv)
   ·cases er
  ·cases er
 | .lrng a,A,X,h,M,σ,σh,R,rs=>by
  rw[pe,ev];dsimp only;refine Sim.bind (qQ a A X h M σ σh R rs) ?_;intro x M1 v h1 f1 R1 q1;dsimp only;obtain⟨t,fr⟩:=x;dsimp only;split
  ·rename_i j;cases qo q1.1;dsimp only;split
   ·have r:qJ A X h1 (qf 0 j.toNat) (jS 0 j.toNat):=by
     have e:qf 0 j.toNat=(jS 0 j.toNat).map .v:=by unfold qf jS;rw[vL];rfl
     rw[e];exact jk (by simp[jS,flat])
    exact(JJ (f:=true) R1 r (wF _) λ_=>Frss.of_lf R1 r (N7 0 _)).le f1.1
   ·exact Sim.stuck
  ·exact Sim.stuck
 | .meth m a as,A,X,h,M,σ,σh,R,rs=>by
  rw[pe,ev];dsimp only;refine Sim.bind (qQ a A X h M σ σh R rs) ?_;intro x M1 v h1 f1 R1 q1;dsimp only;obtain⟨t,fr⟩:=x;dsimp only;split
  ·rename_i n;have q:=q1.1;unfold Rep at q;obtain⟨p,ep,rfl⟩:=q;obtain⟨ts,vs,e1,e2,e3⟩:=R1.at_ n p ep;dsimp only;rw[qO e2];dsimp only;refine Sim.bind (jh as A X h1 M1 σ σh R1 (R.keepS f1 rs)) ?_;intro y M2 w h2 f2 R2 q2;dsimp only;exact(y9 R2 ep q2.1).le (wH f1.1 f2.1)
  ·exact Sim.stuck
theorem jh:∀(e:Es) (A X:List Nat) (h:AH) (M:Mem) (σ:TS) (σh:List (Option V)),RelM gl A X h M->jN A X h σ σh->Sim gl A X h (QEs gl A X h.length) (pes gl P e σ M) (evs F e σh h)
 | .nil,A,X,h,M,σ,σh,R,rs=>by
  rw[pes,evs];have r:qJ A X h [] []:=by unfold qJ;rfl
  exact⟨[],h,rfl,Frm.refl A h,R,r,λ_=>Frss.of_lf R r rfl⟩
 | .cons a as,A,X,h,M,σ,σh,R,rs=>by
  rw[pes,evs];dsimp only;refine Sim.bind (qQ a A X h M σ σh R rs) ?_;intro x M1 v h1 f1 R1 q1;dsimp only;obtain⟨fp1,hp1,R1',hlt1⟩:∃fp1:List Nat,(x.2=true->FP X h1 x.1 v fp1/\fp1.Nodup)/\RelM gl A (X++fp1) h1 M1/\∀a∈fp1,h.length<=a:=by
   cases hx2:x.2 with
   |true=>
    obtain⟨fp2,a,b,c,d,_⟩:=q1.2 hx2;exact⟨fp2,λ_=>⟨a,b⟩,d,c⟩
   |false=>exact⟨[],(λz=>by cases z),by rw[wX];exact R1,λa ha=>by simp at ha⟩
  have hX:∀a∈X,a∈X++fp1:=λa z=>wQ _ z;have hn:∀a o,a∉X->h[a]?=some o->a∉X++fp1/\h1[a]?=some o:=λa o x y=>⟨by
   rw[wL];rintro(z|z)
   ·exact x z
   ·have:=hlt1 a z;have:=qG y;omega,(R.keepN f1 a o x y).2⟩
  refine Sim.bindW hX R.sub (Frm.refl A h1) (jh as A (X++fp1) h1 M1 σ σh R1' (qu (λ_ _ e=>e) hn rs)) ?_;intro y M2 w h2 f2 R2 q2;dsimp only;refine⟨_,h2,rfl,f2,R2.weak hX R.sub,?_,λe=>?_⟩
  ·show qJ A X h2 (x.1::y.map (·.1)) (v::w);unfold qJ;exact⟨v,w,rfl,R1.keep f2 q1.1,qH (λ_ _ e=>e) (λa o x y=>⟨λz=>x (hX _ z),y⟩) _ q2.1⟩
  ·rw[List.all_cons,wE]at e;obtain⟨a1,b1⟩:=hp1 e.1;obtain⟨fp2,a2,b2,c2,d2⟩:=q2.2 e.2;refine⟨fp1++fp2,?_,?_,?_,by rw[<-wm];exact d2⟩
   ·show FPs X h2 (x.1::y.map (·.1)) (v::w) _;unfold FPs;exact⟨v,w,fp1,fp2,rfl,Zj (R1.keepN f2) _ a1,zZ (λa o x y=>⟨λz=>x (hX _ z),y⟩) _ a2,rfl⟩
   ·rw[vE];refine⟨b1,b2,?_⟩;rintro a ha b hb rfl;exact(QA _ a2 a hb).1 (wT _ ha)
   ·intro a ha;rcases wL.mp ha with z|z
    ·exact hlt1 a z
    ·exact wH f1.1 (c2 a z)
theorem qDp:∀(e:Es) (A X:List Nat) (h:AH) (M:Mem) (σ:TS) (σh:List (Option V)),RelM gl A X h M->jN A X h σ σh->Sim gl A X h (λb b' _ _=>b=b') (pec gl P e σ M) (evc F e σh h)
 | .nil,A,X,h,M,σ,σh,R,rs=>by
  rw[pec,evc];exact⟨true,h,rfl,Frm.refl A h,R,rfl⟩
 | .cons a as,A,X,h,M,σ,σh,R,rs=>by
  rw[pec,evc];exact P6 (qQ a A X h M σ σh R rs)
theorem W5:∀(e:Itr) (A X:List Nat) (h:AH) (M:Mem) (σ:TS) (σh:List (Option V)),RelM gl A X h M->jN A X h σ σh->Sim gl A X h (λs sh h' _=>QX A X h' sh s.1 s.2) (pei gl P e σ M) (evi F e σh h)
 | .list a,A,X,h,M,σ,σh,R,rs=>by
  rw[pei,evi];dsimp only;refine Sim.bind (qQ a A X h M σ σh R rs) ?_;intro x M1 v h1 f1 R1 q1;dsimp only;refine tJ λs es=>?_;obtain⟨p,sh,rfl,e1,e2⟩:=qAz R1 q1.1 es;exact⟨sh,h1,e1,Frm.refl A h1,R1,e2⟩
 | .rng1 a,A,X,h,M,σ,σh,R,rs=>by
  rw[pei,evi];dsimp only;refine Sim.bind (qQ a A X h M σ σh R rs) ?_;intro x M1 v h1 f1 R1 q1;dsimp only;obtain⟨t,fr⟩:=x;dsimp only;split
  ·cases qo q1.1;dsimp only;split
   ·exact⟨_,h1,rfl,Frm.refl A h1,R1,.rng 0 _⟩
   ·exact Sim.stuck
  ·exact Sim.stuck
 | .rng2 a b,A,X,h,M,σ,σh,R,rs=>by
  rw[pei,evi];dsimp only;refine Sim.bind (qQ a A X h M σ σh R rs) ?_;intro x M1 v h1 f1 R1 q1;dsimp only;refine Sim.bind (qQ b A X h1 M1 σ σh R1 (R.keepS f1 rs)) ?_;intro y M2 w h2 f2 R2 q2;dsimp only;obtain⟨t,fr⟩:=x;obtain⟨u,fu⟩:=y;dsimp only;split
  ·cases qo q1.1;cases qo q2.1;dsimp only;split
   ·exact⟨_,h2,rfl,Frm.refl A h2,R2,.rng _ _⟩
   ·exact Sim.stuck
  ·exact Sim.stuck
 | .zip a b,A,X,h,M,σ,σh,R,rs=>by
  rw[pei,evi];dsimp only;refine Sim.bind (qQ a A X h M σ σh R rs) ?_;intro x M1 v h1 f1 R1 q1;dsimp only;refine Sim.bind (qQ b A X h1 M1 σ σh R1 (R.keepS f1 rs)) ?_;intro y M2 w h2 f2 R2 q2;dsimp only;refine tJ λs es=>tJ λt et=>?_;obtain⟨p,vs,rfl,e1,e2⟩:=S5 R2 (R1.keep f2 q1.1) es;obtain⟨q,us,rfl,e3,e4⟩:=S5 R2 q2.1 et;dsimp only;rw[e1,e3];exact⟨_,h2,rfl,Frm.refl A h2,R2,.zip p q _ _ _ _ e2 e4⟩
end
end
mutual
theorem W4{X Af Xf:List Nat}{h:AH}(hX:∀a o,(∀vs,o≠O.lst false vs)->h[a]?=some o->a∉X->a∉Xf):∀(t:T) (n:Nat){w:V}{fp:List Nat},FP X h t w fp->(∀(k:Nat) a,fp[k]?=some a->Af[n+k]?=some a) ->
  (thaw n t).2.length=fp.length/\Rep Af Xf h (thaw n t).1 w/\∀(k:Nat) ts',(thaw n t).2[k]?=some ts'->∃a vs,fp[k]?=some a/\h[a]?=some (.lst false vs)/\qJ Af Xf h ts' vs
 | .v x,n,w,fp,p,ha=>by unfold FP at p;obtain⟨p1,rfl⟩:=p;rw[show thaw n (.v x)=(.v x,[]) by simp[thaw]];exact⟨rfl,by unfold Rep;exact p1,λk ts' e=>by simp at e⟩
 | .cell _,n,w,fp,p,ha=>by unfold FP at p;exact p.elim
 | .ob o,n,w,fp,p,ha=>by unfold FP at p;obtain⟨⟨a,rfl,q1,q2,q3⟩,rfl⟩:=p;rw[show thaw n (.ob o)=(.ob o,[]) by simp[thaw]];exact⟨rfl,by unfold Rep;exact⟨a,rfl,hX a _ (by intro _ z;cases z) q2 q1,q2,q3⟩,λk ts' e=>by simp at e⟩
 | .fz _,n,w,fp,p,ha=>by unfold FP at p;exact p.elim
 | .dt _ _,n,w,fp,p,ha=>by unfold FP at p;exact p.elim
 | .lst ts,n,w,fp,p,ha=>by
  unfold FP at p;obtain⟨a,vs,f,rfl,q1,q2,q3,rfl⟩:=p;obtain⟨l,r,c⟩:=JA hX ts n q3 (λk a e=>ha k a (by rw[wC (wB.mp e).1];exact e));rw[thaw];refine⟨by simp[l],?_,λk ts' e=>?_⟩
  ·show Rep Af Xf h (.cell _) _;unfold Rep;refine⟨a,ha _ a ?_,rfl⟩;rw[l,wR (wF _),Nat.sub_self];rfl
  ·dsimp only at e;by_cases hk:k<f.length
   ·rw[wC (by rw[l];exact hk)]at e;obtain⟨b,us,e1,e2,e3⟩:=c k ts' e;exact⟨b,us,by rw[wC hk];exact e1,e2,e3⟩
   ·rw[wR (by rw[l];omega),l]at e;have hk2:k-f.length=0:=by
     have:=(wB.mp e).1;simp at this;omega
    rw[hk2]at e;simp at e;subst e;exact⟨a,vs,by rw[wR (by omega),hk2];rfl,q2,r⟩
 | .tup ts,n,w,fp,p,ha=>by
  unfold FP at p;obtain⟨a,vs,rfl,q1,q2,q3⟩:=p;obtain⟨l,r,c⟩:=JA hX ts n q3 ha;rw[thaw];refine⟨l,?_,c⟩;show Rep Af Xf h (.tup _) _;unfold Rep;exact⟨a,vs,rfl,hX a _ (by intro _ z;cases z) q2 q1,q2,r⟩
theorem JA{X Af Xf:List Nat}{h:AH}(hX:∀a o,(∀vs,o≠O.lst false vs)->h[a]?=some o->a∉X->a∉Xf):∀(ts:List T) (n:Nat){ws:List V}{fp:List Nat},FPs X h ts ws fp->(∀(k:Nat) a,fp[k]?=some a->Af[n+k]?=some a) ->
  (jy n ts).2.length=fp.length/\qJ Af Xf h (jy n ts).1 ws/\∀(k:Nat) ts',(jy n ts).2[k]?=some ts'->∃a vs,fp[k]?=some a/\h[a]?=some (.lst false vs)/\qJ Af Xf h ts' vs
 | [],n,ws,fp,p,ha=>by unfold FPs at p;obtain⟨rfl,rfl⟩:=p;rw[jy];exact⟨rfl,by unfold qJ;rfl,λk ts' e=>by simp at e⟩
 |t::ts,n,ws,fp,p,ha=>by
  unfold FPs at p;obtain⟨v,vs,f1,f2,rfl,q1,q2,rfl⟩:=p;obtain⟨l1,r1,c1⟩:=W4 hX t n q1 (λk a e=>ha k a (by rw[wC (wB.mp e).1];exact e));obtain⟨l2,r2,c2⟩:=JA hX ts (n+(thaw n t).2.length) q2 (λk a e=>by
   have:=ha (f1.length+k) a (by rw[wR (by omega),wn];exact e);rw[l1,Nat.add_assoc];exact this)
  rw[jy];refine⟨by dsimp only;rw[wW,wW,l2,l1],?_,λk ts' e=>?_⟩
  ·show qJ Af Xf h (_::_) _;unfold qJ;exact⟨v,vs,rfl,r1,r2⟩
  ·dsimp only at e;by_cases hk:k<f1.length
   ·rw[wC (by rw[l1];exact hk)]at e;obtain⟨b,us,e1,e2,e3⟩:=c1 k ts' e;exact⟨b,us,by rw[wC hk];exact e1,e2,e3⟩
   ·rw[wR (by rw[l1];omega)]at e;obtain⟨b,us,e1,e2,e3⟩:=c2 _ ts' e;rw[l1]at e1;exact⟨b,us,by rw[wR (by omega)];exact e1,e2,e3⟩
end
theorem RelM.thaw{gl:List T}{A X fp:List Nat}{h:AH}{M:Mem}{t:T}{w:V}(R:RelM gl A (X++fp) h M)(hA:∀a∈A,a∈X)(p:FP X h t w fp)(nd:fp.Nodup):
  RelM gl (A++fp) (X++fp) h (M++(_P.thaw M.length t).2)/\Rep (A++fp) (X++fp) h (_P.thaw M.length t).1 w:=by
 have hX:∀a o,(∀vs,o≠O.lst false vs)->h[a]?=some o->a∉X->a∉X++fp:=λa o hno e x=>by
  rw[wL];rintro(z|z)
  ·exact x z
  ·obtain⟨_,us,e2⟩:=J7 t p a z;rw[e]at e2;cases e2;exact hno _ rfl
 obtain⟨l,r,c⟩:=W4 (Af:=A++fp) hX t M.length p (λk a e=>by rw[<-R.len,wR (by omega),wn];exact e);refine⟨⟨by simp[R.len,l],?_,?_,R.lt,λn a e=>?_,λg t e=>?_⟩,r⟩
 ·rw[vE];exact⟨R.nd,nd,by rintro a ha b hb rfl;exact(J7 t p a hb).1 (hA a ha)⟩
 ·intro a ha;rcases wL.mp ha with z|z
  ·exact wQ _ (hA a z)
  ·exact wT _ z
 ·by_cases hn:n<A.length
  ·rw[wC hn]at e;obtain⟨ts,vs,e1,e2,e3⟩:=R.at_ n a e;exact⟨ts,vs,by rw[wC (by rw[<-R.len];exact hn)];exact e1,e2,qH (λk b eb=>by rw[wC (wB.mp eb).1];exact eb) (λa o x y=>⟨x,y⟩) ts e3⟩
  ·rw[wR (by omega)]at e;have hk:n-A.length<(_P.thaw M.length t).2.length:=by rw[l];exact(wB.mp e).1
   obtain⟨b,us,e1,e2,e3⟩:=c (n-A.length) _ (wD hk);rw[e]at e1;cases e1;have hnm:n-M.length=n-A.length:=by rw[R.len]
   exact⟨_,us,by rw[wR (by rw[<-R.len];omega),hnm];exact wD hk,e2,e3⟩
 ·exact qm (λk b eb=>by rw[wC (wB.mp eb).1];exact eb) (λa o x y=>⟨x,y⟩) t (R.glo g t e)
theorem Jk{A X:List Nat}{h:AH}(n:Nat):∀{ts:List T}{ws:List V},qJ A X h ts ws->jN A X h (ts.map some++List.replicate n none) (ws.map some++List.replicate n none)
 | [],ws,r=>by
  unfold qJ at r;subst r;show jN A X h (List.replicate n none) (List.replicate n none)
  induction n with
  |zero=>rfl
  |succ n ih=>exact⟨none,_,rfl,trivial,ih⟩
 |t::ts,ws,r=>by
  unfold qJ at r;obtain⟨v,vs,rfl,a,b⟩:=r;exact⟨some v,_,rfl,a,Jk n b⟩
def RelO(gl:List T)(A X:List Nat)(n:Nat)(h:AH)(M:Mem):PO->Out->Prop
 | .nx σ,.nx σh=>jN A X h σ σh
 | .bk σ,.bk σh=>jN A X h σ σh
 | .ct σ,.ct σh=>jN A X h σ σh
 | .rt t,.rt w=>QE gl A X n t w h M
 |_,_=>False
theorem RelO.le{gl:List T}{A X:List Nat}{n m:Nat}{h:AH}{M:Mem}{o:PO}{oh:Out}(r:RelO gl A X n h M o oh)(l:m<=n):RelO gl A X m h M o oh:=by
 cases o<;>cases oh<;>first|exact r|exact QE.le r l
def SimS(gl:List T)(A X:List Nat)(h:AH):RSt->RS->Prop
 | .ok (o,M'),r=>∃oh h' B,r=.ok (oh,h')/\Frm A h h'/\(∀b∈B,h.length<=b)/\RelM gl (A++B) (X++B) h' M'/\RelO gl (A++B) (X++B) h.length h' M' o oh
 | .exc c M',r=>∃h' B,r=.exc c h'/\Frm A h h'/\(∀b∈B,h.length<=b)/\RelM gl (A++B) (X++B) h' M'
 | .stuck,_=>True
theorem SimS.stuck{gl:List T}{A X:List Nat}{h:AH}{r:RS}:SimS gl A X h .stuck r:=trivial
theorem SimS.mk{gl:List T}{A X:List Nat}{h:AH}{M:Mem}{o:PO}{oh:Out}(R:RelM gl A X h M)(ro:RelO gl A X h.length h M o oh):SimS gl A X h (.ok (o,M)) (.ok (oh,h)):=
 ⟨oh,h,[],rfl,Frm.refl A h,λb hb=>by simp at hb,by simpa using R,by simpa using ro⟩
theorem SimS.pre{gl:List T}{A X:List Nat}{h h1:AH}{r:RSt}{rh:RS}(s:SimS gl A X h1 r rh)(f:Frm A h h1):SimS gl A X h r rh:=by
 cases r with
 |ok p=>
  obtain⟨o,M'⟩:=p;obtain⟨oh,h',B,e,f1,hB,R,ro⟩:=s;exact⟨oh,h',B,e,f.trans f1,λb hb=>wH f.1 (hB b hb),R,ro.le f.1⟩
 |exc c M'=>
  obtain⟨h',B,e,f1,hB,R⟩:=s;exact⟨h',B,e,f.trans f1,λb hb=>wH f.1 (hB b hb),R⟩
 |stuck=>trivial
theorem Sim.bindS{α β:Type}{gl:List T}{A X:List Nat}{h:AH}{Q:α->β->AH->Mem->Prop}{r:PR (α×Mem)}{rh:Res (β×AH)}{f:α×Mem->RSt}{g:β×AH->RS}
  (s:Sim gl A X h Q r rh) (k:∀x M' y h',Frm A h h'->RelM gl A X h' M'->Q x y h' M'->SimS gl A X h' (f (x,M')) (g (y,h'))):SimS gl A X h (r.bind f) (rh.bind g):=by
 cases r with
 |ok p=>
  obtain⟨x,M'⟩:=p;obtain⟨y,h',rfl,f1,R1,q⟩:=s;exact(k x M' y h' f1 R1 q).pre f1
 |exc c M'=>
  obtain⟨h',rfl,f1,R1⟩:=s;exact⟨h',[],rfl,f1,λb hb=>by simp at hb,by simpa using R1⟩
 |stuck=>trivial
theorem SimS.bind{gl:List T}{A X:List Nat}{h:AH}{r:RSt}{rh:RS}{f:PO×Mem->RSt}{g:Out×AH->RS}
  (s:SimS gl A X h r rh) (k:∀o M' oh h' B,Frm A h h'->(∀b∈B,h.length<=b)->RelM gl (A++B) (X++B) h' M'->RelO gl (A++B) (X++B) h.length h' M' o oh->SimS gl (A++B) (X++B) h' (f (o,M')) (g (oh,h'))\/(f (o,M')=.ok (o,M')/\g (oh,h')=.ok (oh,h'))):SimS gl A X h (r.bind f) (rh.bind g):=by
 cases r with
 |ok p=>
  obtain⟨o,M'⟩:=p;obtain⟨oh,h',B,rfl,f1,hB,R,ro⟩:=s;rw[tD,tF];rcases k o M' oh h' B f1 hB R ro with s2|⟨e1,e2⟩
  ·revert s2;generalize f (o,M')=r2;generalize g (oh,h')=rh2;intro s2;cases r2 with
   |ok p2=>
    obtain⟨o2,M2⟩:=p2;obtain⟨oh2,h2,B2,rfl,f2,hB2,R2,ro2⟩:=s2;rw[wm,wm]at R2 ro2;exact⟨oh2,h2,B++B2,rfl,f1.trans2 hB f2,λb hb=>by
     rcases wL.mp hb with z|z
     ·exact hB b z
     ·exact wH f1.1 (hB2 b z),R2,ro2.le f1.1⟩
   |exc c M2=>
    obtain⟨h2,B2,rfl,f2,hB2,R2⟩:=s2;rw[wm,wm]at R2;exact⟨h2,B++B2,rfl,f1.trans2 hB f2,λb hb=>by
     rcases wL.mp hb with z|z
     ·exact hB b z
     ·exact wH f1.1 (hB2 b z),R2⟩
   |stuck=>trivial
  ·rw[e1,e2];exact⟨oh,h',B,rfl,f1,hB,R,ro⟩
 |exc c M'=>
  obtain⟨h',B,rfl,f1,hB,R⟩:=s;exact⟨h',B,rfl,f1,hB,R⟩
 |stuck=>trivial
theorem Jx{A X B:List Nat}{h h':AH}(hs:∀a∈A,a∈X)(f:Frm A h h')(hB:∀b∈B,h.length<=b):∀a o,a∉X->h[a]?=some o->a∉X++B/\h'[a]?=some o:=λa o x y=>⟨by
 rw[wL];rintro(z|z)
 ·exact x z
 ·have:=hB a z;have:=qG y;omega,(f.2 a (qG y) λz=>x (hs _ z)).trans y⟩
theorem jX{A B:List Nat}:∀(n:Nat) a,A[n]?=some a->(A++B)[n]?=some a:=λn a e=>by rw[wC (wB.mp e).1];exact e
theorem T5{gl:List T}{s:Src}{its:List T}{d:jq}{g:Tg}{b:TS->Mem->RSt}{b':List (Option V)->AH->RS}
  (hb:∀A X h M σ σh,RelM gl A X h M->jN A X h σ σh->SimS gl A X h (b σ M) (b' σh h)):∀(r:List T) (i:Nat) (σ:TS) (σh:List (Option V)) (M:Mem) (h:AH) (A X:List Nat),
   its.drop i=r->i<=its.length->RelM gl A X h M->QX A X h s its d->jN A X h σ σh->SimS gl A X h (zN d g b r σ M) (B7 s g b' r.length i σh h)
 | [],i,σ,σh,M,h,A,X,hr,hi,R,sr,rs=>by
  have hi':i=its.length:=by
   have:=vw.mp hr;omega
  subst hi';show SimS gl A X h (.ok (.nx σ,M)) (if jT h its.length s then _ else _);rw[if_pos (ZJ sr)];exact SimS.mk R rs
 |x::r,i,σ,σh,M,h,A,X,hr,hi,R,sr,rs=>by
  have ex:its[i]?=some x:=by
   have:(its.drop i)[0]?=some x:=by rw[hr];rfl
   rwa [vY,Nat.add_zero]at this
  have hi2:i+1<=its.length:=(wB.mp ex).1;have hr2:its.drop (i+1)=r:=by
   rw[<-List.drop_drop,hr];rfl
  obtain⟨w,ext,ey,rx⟩:=QB R sr ex;have fy:Frm A h (h++ext):=Frm.app A h ext;rw[List.length_cons];unfold zN B7;rw[ey];dsimp only;cases es:zd g x σ with
  |none=>exact SimS.stuck
  |some σ1=>
   obtain⟨σh1,esh,rs1⟩:=jg es rx (R.keepS fy rs);rw[esh];dsimp only;refine SimS.bind ((hb A X _ M σ1 σh1 (R.up ext) rs1).pre fy) ?_;intro o M2 oh h2 B f2 hB R2 ro;have nxt:∀σ2 σh2,jN (A++B) (X++B) h2 σ2 σh2->SimS gl (A++B) (X++B) h2 (if qY d M2=true then zN d g b r σ2 M2 else .stuck) (B7 s g b' r.length (i+1) σh2 h2):=λσ2 σh2 rs2=>by
    split
    ·rename_i hd;exact T5 hb r (i+1) σ2 σh2 M2 h2 _ _ hr2 hi2 R2 (Zg sr (Jx R.sub f2 hB) R2 hd jX) rs2
    ·exact SimS.stuck
   cases o with
   |nx σ2=>cases oh<;>first|exact .inl (nxt _ _ ro)|exact ro.elim
   |ct σ2=>cases oh<;>first|exact .inl (nxt _ _ ro)|exact ro.elim
   |bk σ2=>cases oh<;>first|exact .inl (SimS.mk R2 ro)|exact ro.elim
   |rt t=>cases oh<;>first|exact .inr ⟨rfl,rfl⟩|exact ro.elim
section
variable{gl:List T}{P:Nat->List T->Mem->PR (TB×Mem)}{F:Nat->List V->AH->RV}(C:List Nat)
variable (hF:∀f ts ws A X h M,RelM gl A X h M->qJ A X h ts ws->Sim gl A X h (QE gl A X h.length) (P f ts M) (F f ws h))
include hF
omit hF in
theorem Res.bind_assoc{α β γ:Type}(r:Res α)(f:α->Res β)(g:β->Res γ):(r.bind f).bind g=r.bind λa=>(f a).bind g:=by cases r<;>rfl
omit hF in
def qGU(gl:List T)(A X:List Nat)(h:AH):PR (TB×Mem)->RV->Prop
 | .ok ((.lst ts,_),M1),r=>∃h1 vs,r=.ok (.ref h1.length,h1++[.lst false vs])/\Frm A h h1/\RelM gl A X h1 M1/\qJ A X h1 ts vs
 |_,_=>True
omit hF in
theorem RelM.cellN{gl:List T}{A X:List Nat}{h:AH}{M:Mem}{ts:List T}{vs:List V}(R:RelM gl A X h M)(r:qJ A X h ts vs):RelM gl (A++[h.length]) (X++[h.length]) (h++[.lst false vs]) (M++[ts]):=by
 have hn:∀a o,a∉X->h[a]?=some o->a∉X++[h.length]/\(h++[O.lst false vs])[a]?=some o:=Jx R.sub (Frm.app A h _) (λb hb=>by simp at hb;omega);refine⟨by simp[R.len],?_,λa ha=>?_,λa ha=>?_,λn a e=>?_,λg t e=>qm jX hn t (R.glo g t e)⟩
 ·rw[vE];refine⟨R.nd,by simp,λa ha b hb=>?_⟩;have:=R.lt a (R.sub a ha);simp at hb;omega
 ·rcases wL.mp ha with z|z
  ·exact wQ _ (R.sub a z)
  ·exact wT _ z
 ·rcases wL.mp ha with z|z
  ·have:=R.lt a z;simp;omega
  ·simp at z;simp[z]
 ·by_cases hlt:n<A.length
  ·rw[wC hlt]at e;obtain⟨us,ws,e1,e2,e3⟩:=R.at_ n a e;exact⟨us,ws,by rw[wC (by rw[<-R.len];exact hlt)];exact e1,by rw[wC (qG e2)];exact e2,qH jX hn us e3⟩
  ·have hl:=(wB.mp e).1;have hnn:n=A.length:=by simp at hl;omega
   subst hnn;simp at e;subst e;exact⟨ts,vs,by rw[R.len];simp,by simp,qH jX hn ts r⟩
omit hF in
theorem g7{e:E}(h:qCB e=true):(∃as,e=.lst as)\/∃a b,e=.bin .add a b:=by
 unfold qCB at h;split at h
 ·exact .inr ⟨_,_,rfl⟩
 ·exact .inl ⟨_,rfl⟩
 ·cases h
theorem qBe(e:E)(he:qCB e=true)(A X:List Nat)(h:AH)(M:Mem)(σ:TS)(σh:List (Option V))(R:RelM gl A X h M)(rs:jN A X h σ σh):qGU gl A X h (pe gl P e σ M) (ev F e σh h):=by
 rcases g7 he with⟨as,rfl⟩|⟨a,b,rfl⟩
 ·rw[pe,ev];dsimp only;have s1:=jh hF as A X h M σ σh R rs;revert s1;generalize pes gl P as σ M=r;generalize evs F as σh h=rh;intro s1;cases r with
  |stuck=>trivial
  |exc c M'=>trivial
  |ok p=>
   obtain⟨x,M1⟩:=p;obtain⟨w,h1,rfl,f1,R1,q⟩:=s1;rw[tD,tF];dsimp only;rw[<-q.len];split
   ·exact⟨h1,w,rfl,f1,R1,q.1⟩
   ·trivial
 ·rw[pe,ev];dsimp only;have s1:=qQ hF a A X h M σ σh R rs;revert s1;generalize pe gl P a σ M=r;generalize ev F a σh h=rh;intro s1;cases r with
  |stuck=>trivial
  |exc c M'=>trivial
  |ok p=>
   obtain⟨x,M1⟩:=p;obtain⟨v,h1,rfl,f1,R1,q1⟩:=s1;rw[tD,tF];dsimp only;have s2:=qQ hF b A X h1 M1 σ σh R1 (R.keepS f1 rs);revert s2;generalize pe gl P b σ M1=r;generalize ev F b σh h1=rh;intro s2;cases r with
   |stuck=>trivial
   |exc c M'=>trivial
   |ok p=>
    obtain⟨y,M2⟩:=p;obtain⟨w,h2,rfl,f2,R2,q2⟩:=s2;rw[tD,tF];dsimp only;have rx:=R1.keep f2 q1.1;cases eb:qr M2 .add x.1 y.1 with
    |none=>trivial
    |some r=>
     rw[PR.ofO_some,tD];unfold qr at eb;split at eb
     ·cases eb;trivial
     ·cases eb
     ·rename_i e1 e2;dsimp only at eb;split at eb
      ·split at eb
       ·cases eb;trivial
       ·cases eb
      rename_i u0 u1 u2;clear u2;obtain⟨xs,m1,eb⟩:=wK.mp eb;obtain⟨ys,m2,eb⟩:=wK.mp eb;split at eb
      ·rename_i hl;cases eb;obtain⟨a1,vs,rfl,g1,k1⟩:=U8 R2 rx m1;obtain⟨a2,us,rfl,g2,k2⟩:=U8 R2 q2.1 m2;refine⟨h2,vs++us,?_,f1.trans f2,R2,reps_iff.mpr (zD (reps_iff.mp k1) (reps_iff.mp k2))⟩;show (match qg h2 a1,qg h2 a2 with|some xs,some ys=>if xs.length+ys.length<=lim then newL (xs++ys) h2 else .stuck|_,_=>_)=_;rw[g1,g2];dsimp only;rw[<-qC (reps_iff.mp k1),<-qC (reps_iff.mp k2),if_pos hl];rfl
      ·cases eb
     ·cases eb
omit hF in
omit hF in
theorem qDt{σ:List (Option V)}{h:AH}{u:Nat}{v:V}(eu:σ[u]?=some (some v)):ev F (.var u) σ h=.ok (v,h):=by
 show (match σ[u]? with|some (some v)=>Res.ok (v,h)|_=>.stuck)=_;rw[eu]
omit hF in
omit hF in
omit hF in
omit hF in
omit hF in
omit hF in
def SimN(gl:List T)(A X:List Nat)(D n0:Nat)(h:AH):RSt->RS->Prop
 | .ok (o,M'),r=>∃oh h',r=.ok (oh,h')/\Frm (A++[D]) h h'/\RelM gl A X h' M'/\RelO gl A X n0 h' M' o oh
 | .exc _ _,_=>False
 | .stuck,_=>True
omit hF in
theorem SimN.pre{A X:List Nat}{D n0:Nat}{h h1:AH}{r:RSt}{rh:RS}(s:SimN gl A X D n0 h1 r rh)(f:Frm (A++[D]) h h1):SimN gl A X D n0 h r rh:=by
 match r,s with
 | .ok (o,M'),⟨oh,h',e,f1,R,ro⟩=>exact⟨oh,h',e,f.trans f1,R,ro⟩
 | .exc _ _,z=>exact z.elim
 | .stuck,_=>trivial
omit hF in
theorem Frm.more{A:List Nat}{D:Nat}{h h':AH}(f:Frm A h h'):Frm (A++[D]) h h':=⟨f.1,λj hj hA=>f.2 j hj λz=>hA (wQ _ z)⟩
def SimD(gl:List T)(A X:List Nat)(D u:Nat)(h:AH):PR ((List Int×List T×TS)×Mem)->RS->Prop
 | .ok (q,M'),r=>∃σh h' vs,r=.ok (.nx σh,h')/\Frm (A++[D]) h h'/\RelM gl A X h' M'/\jN A X h' q.2.2 σh/\h'[D]?=some (.ob (.dct (q.1.zip vs)))/\q.1.length=vs.length/\(∀v∈vs,flat v=false)/\qJ A X h' q.2.1 vs/\σh[u]?=some (some (.ref D))
 | .exc _ _,_=>False
 | .stuck,_=>True
omit hF in
theorem SimD.pre{A X:List Nat}{D u:Nat}{h h1:AH}{r:PR ((List Int×List T×TS)×Mem)}{rh:RS}(s:SimD gl A X D u h1 r rh)(f:Frm (A++[D]) h h1):SimD gl A X D u h r rh:=by
 match r,s with
 | .ok (q,M'),⟨σh,h',vs,e,f1,z⟩=>exact⟨σh,h',vs,e,f.trans f1,z⟩
 | .exc _ _,z=>exact z.elim
 | .stuck,_=>trivial
omit hF in
theorem u3{ks:List Int}{vs:List V}{k:Int}{v:V}(l:ks.length=vs.length)(hk:k∉ks):z9 (ks.zip vs) k v=(ks++[k]).zip (vs++[v]):=by
 have:Q0 (ks.zip vs) k=false:=by
  unfold Q0;rw[List.any_eq_false];rintro⟨a,b⟩ hp;have:=vz hp;simp only[uH];rintro rfl;exact hk this.1
 unfold z9;rw[this,if_neg (by decide),List.zip_append l];rfl
theorem qAW{A X:List Nat}{s:Src}{its:List T}{d:jq}{u x D:Nat}{ek ev':E}(hi:u≠x)(hD:D∈X)(hA:D∉A):∀(r:List T) (n:Nat) (ks:List Int) (ys:List T) (vs:List V) (σ:TS) (σh:List (Option V)) (M:Mem) (h:AH),
   its.drop n=r->n<=its.length->RelM gl A X h M->QX A X h s its d->jN A X h σ σh->σh[u]?=some (some (.ref D))->h[D]?=some (.ob (.dct (ks.zip vs)))->ks.length=vs.length->(∀v∈vs,flat v=false)->qJ A X h ys vs->x<σh.length->SimD gl A X D u h (h8 d x (pe gl P ek) (pe gl P ev') r ks ys σ M) (B7 s (.name x) (B3 F u ek ev') r.length n σh h)
 | [],n,ks,ys,vs,σ,σh,M,h,hr,hn,R,sr,rs,eu,eD,el,ef,ry,hx=>by
  have hi':n=its.length:=by
   have:=vw.mp hr;omega
  subst hi';show SimD gl A X D u h (.ok ((ks,ys,σ),M)) (if jT h its.length s then _ else _);rw[if_pos (ZJ sr)];exact⟨_,h,vs,rfl,Frm.refl _ _,R,rs,eD,el,ef,ry,eu⟩
 |t::r,n,ks,ys,vs,σ,σh,M,h,hr,hn,R,sr,rs,eu,eD,el,ef,ry,hx=>by
  have ex:its[n]?=some t:=by
   have:(its.drop n)[0]?=some t:=by rw[hr];rfl
   rwa [vY,Nat.add_zero]at this
  have hn2:n+1<=its.length:=(wB.mp ex).1;have hr2:its.drop (n+1)=r:=by
   rw[<-List.drop_drop,hr];rfl
  obtain⟨w,ext,ey,rx⟩:=QB R sr ex;have fy:Frm A h (h++ext):=Frm.app A h ext;have R1:=R.up ext;rw[List.length_cons];unfold h8 B7;rw[ey];have st:store (.name x) w σh (h++ext)=some (σh.set x (some w)):=rfl;dsimp only;rw[st];dsimp only;have eu1:(σh.set x (some w))[u]?=some (some (.ref D)):=by rw[wV (Ne.symm hi)];exact eu
  have rs1:jN A X (h++ext) (σ.set x (some t)) (σh.set x (some w)):=qt x (R.keepS fy rs) (show u8 A X _ (some _) (some _) from rx);have sv:=qQ hF ev' A X (h++ext) M _ _ R1 rs1;revert sv;unfold B3 qFY;generalize pe gl P ev' (σ.set x (some t)) M=rv;generalize ev F ev' (σh.set x (some w)) (h++ext)=rvh;intro sv
  match rv,sv with
  | .stuck,_=>trivial
  | .exc _ _,_=>trivial
  | .ok ((y,fl),M2),⟨yv,h2,e2,f2,R2,q2⟩=>
   subst e2;rw[PR.nx_ok,tD,tF];dsimp only;rw[qDt eu1,tF];dsimp only;have rs2:=R1.keepS f2 rs1;have sk:=qQ hF ek A X h2 M2 _ _ R2 rs2;revert sk;generalize pe gl P ek (σ.set x (some t)) M2=rk;generalize ev F ek (σh.set x (some w)) h2=rkh;intro sk
   match rk,sk with
   | .stuck,_=>trivial
   | .exc _ _,_=>trivial
   | .ok ((z,flz),M3),⟨zv,h3,e3,f3,R3,q3⟩=>
    subst e3;rw[PR.nx_ok,tD,tF];dsimp only;split
    ·rename_i k0;cases qo q3.1;split
     ·rename_i hd;have f03:Frm A h h3:=(fy.trans f2).trans f3;have eD3:h3[D]?=some (.ob (.dct (ks.zip vs))):=by rw[f03.2 D (qG eD) hA];exact eD
      have lD:D<h3.length:=qG eD3;dsimp only;rw[show qg h3 D=none by unfold qg;rw[eD3],show zz h3 D=some (ks.zip vs) by unfold zz;rw[eD3]];dsimp only;rw[if_pos (by rw[List.length_zip];omega),u3 el hd.2.2.1];show SimD gl A X D u h _ (B7 s (.name x) (B3 F u ek ev') r.length (n+1) (σh.set x (some w)) _);have kp3:∀a o,a∉X->h3[a]?=some o->a∉X/\(h3.set D (.ob (.dct ((ks++[k0]).zip (vs++[yv])))))[a]?=some o:=λa o z e=>⟨z,by
       rw[wV (by rintro rfl;exact z hD)];exact e⟩
      have kp:∀a o,a∉X->h[a]?=some o->a∉X/\(h3.set D (.ob (.dct ((ks++[k0]).zip (vs++[yv])))))[a]?=some o:=λa o z e=>kp3 a o z ((R.keepN f03) a o z e).2;have R4:=R3.setX hD hA (.ob (.dct ((ks++[k0]).zip (vs++[yv]))));have f4:Frm (A++[D]) h (h3.set D (.ob (.dct ((ks++[k0]).zip (vs++[yv]))))):=f03.more.set (.inl (by simp)) _;have fly:flat yv=false:=by
       obtain⟨a,rfl⟩:=jO hd.2.2.2 q2.1;rfl
      refine SimD.pre ?_ f4;refine qAW hi hD hA r (n+1) _ _ (vs++[yv]) _ _ M3 _ hr2 hn2 R4 (JY sr (λa o z e=>(kp a o z e).2) R4 hd.1) (qu (λ_ _ e=>e) kp3 (R2.keepS f3 rs2)) eu1 (wZ lD) (by simp[el]) (λv hv=>?_) ?_ (by simpa using hx)
      ·rcases wL.mp hv with hv|hv
       ·exact ef v hv
       ·rw[wY.mp hv];exact fly
      ·exact reps_iff.mpr (zD (reps_iff.mp (qH (λ_ _ e=>e) kp ys ry)) ⟨yv,[],rfl,qm (λ_ _ e=>e) kp3 _ (R2.keep f3 q2.1),rfl⟩)
     ·trivial
    ·trivial
mutual
theorem qEa:∀(s:S) (A X:List Nat) (h:AH) (M:Mem) (σ:TS) (σh:List (Option V)),RelM gl A X h M->jN A X h σ σh->SimS gl A X h (px gl P C s σ M) (ex F s σh h)
 | .asg g e,A,X,h,M,σ,σh,R,rs=>by
  rw[px,ex];dsimp only;have se:=qQ hF e A X h M σ σh R rs;have tp:=λhe=>qBe hF e he A X h M σ σh R rs;revert se tp;generalize pe gl P e σ M=r;generalize ev F e σh h=rh;intro se tp;cases r with
  |stuck=>trivial
  |exc c M'=>
   obtain⟨h',rfl,f1,R1⟩:=se;exact⟨h',[],rfl,f1,λb hb=>by simp at hb,by simpa using R1⟩
  |ok p=>
   obtain⟨x,M1⟩:=p;obtain⟨w,h1,rfl,f1,R1,q⟩:=se;rw[tD,tF];dsimp only;have gen:∀{g:Tg}{σ1:TS},zd g x.1 σ=some σ1->SimS gl A X h (.ok (.nx σ1,M1)) (match store g w σh h1 with|some σ1=>.ok (.nx σ1,h1)|none=>.stuck):=λe=>by
    obtain⟨σh1,e2,rs2⟩:=jg e q.1 (R.keepS f1 rs);rw[e2];exact(SimS.mk (o:=.nx _) (oh:=.nx _) R1 rs2).pre f1
   cases g with
   |name i=>
    dsimp only;split
    ·rename_i hc;rw[wE]at hc;obtain⟨fp,p,nd,l,R',_⟩:=q.2 hc.2;obtain⟨R2,r2⟩:=R'.thaw R.sub p nd;refine⟨.nx (σh.set i (some w)),h1,fp,rfl,f1,l,R2,?_⟩;exact qt i (qu jX (Jx R.sub f1 l) rs) (show u8 _ _ h1 (some _) (some w) from r2)
    ·split
     ·rename_i hc;rw[wE]at hc;have tp:=tp hc.2;obtain⟨x1,x2⟩:=x;dsimp only;split
      ·rename_i ts;obtain⟨h0,vs,e0,f0,R0,r0⟩:=tp;cases e0;refine⟨.nx (σh.set i (some (.ref h0.length))),_,[h0.length],rfl,f0.trans (Frm.app A h0 _),λb hb=>by simp at hb;have:=f0.1;omega,R0.cellN r0,?_⟩;refine qt i (qu jX (Jx R0.sub (Frm.app A h0 _) (λb hb=>by simp at hb;omega)) (R.keepS f0 rs)) (show u8 _ _ _ (some _) (some _) from ?_);have rc:Rep (A++[h0.length]) (X++[h0.length]) (h0++[O.lst false vs]) (.cell M1.length) (.ref h0.length):=by
        unfold Rep;exact⟨h0.length,by rw[<-R0.len];simp,rfl⟩
       exact rc
      ·exact SimS.stuck
     ·exact gen (g:=.name i) rfl
   |tup is=>
    dsimp only;split
    ·rename_i σ1 e;exact gen e
    ·exact SimS.stuck
 | .put o i v,A,X,h,M,σ,σh,R,rs=>by
  rw[px,ex];dsimp only;refine Sim.bindS (qQ hF v A X h M σ σh R rs) ?_;intro x M1 vx h1 f1 R1 q1;dsimp only;refine Sim.bindS (qQ hF o A X h1 M1 σ σh R1 (R.keepS f1 rs)) ?_;intro y M2 w h2 f2 R2 q2;dsimp only;refine Sim.bindS (qQ hF i A X h2 M2 σ σh R2 (R1.keepS f2 (R.keepS f1 rs))) ?_;intro z M3 u h3 f3 R3 q3;dsimp only;obtain⟨ty,fy⟩:=y;obtain⟨tz,fz⟩:=z;dsimp only;split
  ·rename_i n k;cases qo q3.1;have q:=R2.keep f3 q2.1;unfold Rep at q;obtain⟨p,ep,rfl⟩:=q;obtain⟨ts2,vs2,g1,g2,g3⟩:=R3.at_ n p ep;rw[g1];dsimp only;rw[show qg h3 p=some vs2 by unfold qg;rw[g2]];dsimp only;rw[<-qC (reps_iff.mp g3)];split
   ·rename_i j ej
    try simp only[ej]
    obtain⟨R4,f4⟩:=R3.put ep (reps_iff.mpr (qt j (reps_iff.mp g3) (R2.keep f3 (R1.keep f2 q1.1))));exact(SimS.mk (o:=.nx σ) (oh:=.nx σh) R4 (R3.keepS f4 (R2.keepS f3 (R1.keepS f2 (R.keepS f1 rs))))).pre f4
   ·exact SimS.stuck
  ·exact SimS.stuck
 | .expr e,A,X,h,M,σ,σh,R,rs=>by
  rw[px,ex];dsimp only;refine Sim.bindS (qQ hF e A X h M σ σh R rs) ?_;intro x M1 v h1 f1 R1 q1;dsimp only;exact SimS.mk (o:=.nx σ) (oh:=.nx σh) R1 (R.keepS f1 rs)
 | .ret e,A,X,h,M,σ,σh,R,rs=>by
  rw[px,ex];dsimp only;have se:=qQ hF e A X h M σ σh R rs;revert se;generalize pe gl P e σ M=r;generalize ev F e σh h=rh;intro se;cases r with
  |stuck=>trivial
  |exc c M'=>
   obtain⟨h',rfl,f1,R1⟩:=se;exact⟨h',[],rfl,f1,λb hb=>by simp at hb,by simpa using R1⟩
  |ok p=>
   obtain⟨x,M1⟩:=p;obtain⟨w,h1,rfl,f1,R1,q⟩:=se;exact⟨.rt w,h1,[],rfl,f1,λb hb=>by simp at hb,by simpa using R1,by simpa using (show RelO gl A X h.length h1 M1 (.rt x) (.rt w) from q)⟩
 | .ifs c t u,A,X,h,M,σ,σh,R,rs=>by
  rw[px,ex];dsimp only;refine Sim.bindS (P6 (qQ hF c A X h M σ σh R rs)) ?_;rintro x M1 v h1 f1 R1 rfl;dsimp only;cases x with
  |true=>simp only[if_true];exact Jb t A X h1 M1 σ σh R1 (R.keepS f1 rs)
  |false=>simp only[vK,if_false];exact Jb u A X h1 M1 σ σh R1 (R.keepS f1 rs)
 | .for_ g it b,A,X,h,M,σ,σh,R,rs=>by
  rw[px,ex];dsimp only;refine Sim.bindS (W5 hF it A X h M σ σh R rs) ?_;intro s M1 sh h1 f1 R1 q1;dsimp only;rw[Zy q1];exact T5 (λA X h M σ σh R rs=>Jb b A X h M σ σh R rs) s.1 0 σ σh M1 h1 A X rfl (vM _) R1 q1 (R.keepS f1 rs)
 | .dlp u x e k v,A,X,h,M,σ,σh,R,rs=>by
  rw[px,ex];dsimp only;split
  ·exact SimS.stuck
  ·rename_i hne;have hX:∀b,b∈X++[h.length]↔b=h.length\/b∈X:=λb=>by rw[wL,wY];exact Or.comm
   have R0:=R.addX (o:=.ob (.dct [])) hX;have hn:∀b o,b∉X->h[b]?=some o->b∉X++[h.length]/\(h++[O.ob (.dct [])])[b]?=some o:=Jx R.sub (Frm.app A h _) (λb hb=>by simp at hb;omega);have rs0:jN A (X++[h.length]) (h++[O.ob (.dct [])]) (σ.set u none) (σh.set u (some (.ref h.length))):=qt u (qu (λ_ _ e=>e) hn rs) (show u8 A _ _ none _ from trivial);have ll:=qC rs;have sp:=W5 hF (.list e) A (X++[h.length]) _ M _ _ R0 rs0;revert sp;generalize pei gl P (.list e) (σ.set u none) M=rp;generalize evi F (.list e) (σh.set u (some (.ref h.length))) (h++[O.ob (.dct [])])=re;intro sp
   match rp,sp with
   | .stuck,_=>exact SimS.stuck
   | .exc c M1,⟨h1,e,f1,R1⟩=>
    subst e;exact⟨h1,[],rfl,(Frm.app A h _).trans f1,λb hb=>by simp at hb,by simpa using R1.weak (λa ha=>(hX a).mpr (.inr ha)) R.sub⟩
   | .ok (s,M1),⟨sh,h1,e,f1,R1,q1⟩=>
    subst e;rw[tD,tF];dsimp only;rw[Zy q1];dsimp only;have hD:h.length∈X++[h.length]:=by simp
    have hA:h.length∉A:=λz=>by have:=R.lt _ (R.sub _ z);omega
    have hDX:h.length∉X:=λz=>by have:=R.lt _ z;omega
    have e1:h1[h.length]?=some (.ob (.dct (([]:List Int).zip []))):=by
     rw[f1.2 h.length (by simp) hA];simp
    have sn:=qAW hF (ek:=k) (ev':=v) (u:=u) (x:=x) (D:=h.length) (s:=sh) (its:=s.1) (d:=s.2) (by omega) hD hA s.1 0 [] [] [] (σ.set u none) (σh.set u (some (.ref h.length))) M1 h1 rfl (vM _) R1 q1 (R0.keepS f1 rs0) (wZ (by omega)) e1 rfl (λv hv=>by simp at hv) (by unfold qJ;rfl) (by simp;omega);revert sn;generalize h8 s.2 x (pe gl P k) (pe gl P v) s.1 [] [] (σ.set u none) M1=r2;generalize B7 sh (.name x) (B3 F u k v) s.1.length 0 (σh.set u (some (.ref h.length))) h1=re2;intro sn;have wk:∀(h':AH) (b:Nat) (o:O),b∉X++[h.length]->h'[b]?=some o->b∉X/\h'[b]?=some o:=λh' b o z e=>⟨λy=>z ((hX b).mpr (.inr y)),e⟩
    match r2,sn with
    | .stuck,_=>exact SimS.stuck
    | .exc _ _,z=>exact z.elim
    | .ok (q,M2),⟨σh2,h2,vs,e,f2,R2,rs2,eD,el,ef,ry,eu⟩=>
     subst e;rw[tD];dsimp only;split
     ·exact SimS.stuck
     ·rename_i hq;have R3:RelM gl A X h2 M2:=R2.weak (λa ha=>(hX a).mpr (.inr ha)) R.sub;refine⟨.nx σh2,h2,[],rfl,?_,λb hb=>by simp at hb,by simpa using R3,?_⟩
      ·have g1:=(Frm.app A h [O.ob (.dct [])]).trans f1;refine⟨wH g1.1 f2.1,λj hj hjA=>?_⟩;rw[f2.2 j (wG hj g1.1) (λz=>by
        rcases wL.mp z with z|z
        ·exact hjA z
        ·simp at z;omega),g1.2 j hj hjA]
      ·rw[wX,wX];have rr:Rep A X h2 (.dt q.1 q.2.1) (.ref h.length):=by
        unfold Rep;refine⟨h.length,vs,rfl,hDX,eD,⟨el,?_⟩,qH (λ_ _ e=>e) (wk h2) _ ry⟩;have lv:=qC (reps_iff.mp ry);cases vs with
        |nil=>exact absurd (wc.mp lv) hq
        |cons v0 vs=>rw[List.any_cons,ef v0 (by simp)];rfl
       have:=qt u (qu (λ_ _ e=>e) (wk h2) rs2) (show u8 A X h2 (some (.dt q.1 q.2.1)) (some (.ref h.length)) from rr)
       rwa [show σh2.set u (some (.ref h.length))=σh2 from List.ext_getElem? λi=>by
        by_cases z:i=u
        ·subst z;rw[wZ (wB.mp eu).1,eu]
        ·rw[wV (Ne.symm z)]]at this
 | .stop,A,X,h,M,σ,σh,R,rs=>by rw[px,ex];exact SimS.stuck
theorem Jb:∀(s:Ss) (A X:List Nat) (h:AH) (M:Mem) (σ:TS) (σh:List (Option V)),RelM gl A X h M->jN A X h σ σh->SimS gl A X h (pxs gl P C s σ M) (exs F s σh h)
 | .nil,A,X,h,M,σ,σh,R,rs=>by rw[pxs,exs];exact SimS.mk (o:=.nx σ) (oh:=.nx σh) R rs
 | .cons s r,A,X,h,M,σ,σh,R,rs=>by
  rw[pxs,exs];dsimp only;refine SimS.bind (qEa s A X h M σ σh R rs) ?_;intro o M1 oh h1 B f1 hB R1 ro;cases o with
  |nx σ2=>cases oh<;>first|exact .inl (Jb r _ _ h1 M1 _ _ R1 ro)|exact ro.elim
  |ct σ2=>cases oh<;>first|exact .inr ⟨rfl,rfl⟩|exact ro.elim
  |bk σ2=>cases oh<;>first|exact .inr ⟨rfl,rfl⟩|exact ro.elim
  |rt t=>cases oh<;>first|exact .inr ⟨rfl,rfl⟩|exact ro.elim
end
end
section
variable{gl:List T}{A X B:List Nat}{h h':AH}{M M1:Mem}
theorem mapM_cons{α β:Type}{f:α->Option β}{x:α}{xs:List α}{ys:List β}(e:(x::xs).mapM f=some ys):∃y ys',f x=some y/\xs.mapM f=some ys'/\ys=y::ys':=by
 rw[List.mapM_cons]at e;cases hf:f x with
 |none=>rw[hf]at e;cases e
 |some y=>
  rw[hf]at e;cases hg:xs.mapM f with
  |none=>rw[hg]at e;cases e
  |some ys'=>rw[hg]at e;cases e;exact⟨y,ys',rfl,rfl,rfl⟩
theorem mapM_nil{α β:Type}{f:α->Option β}{ys:List β}(e:([]:List α).mapM f=some ys):ys=[]:=by
 rw[List.mapM_nil]at e;cases e;rfl
theorem jf{A1 X1:List Nat}{f:T->Option T}(hf:∀t t' w,f t=some t'->Rep A1 X1 h t w->Rep A X h t' w):∀{ts ts':List T}{vs:List V},ts.mapM f=some ts'->qJ A1 X1 h ts vs->qJ A X h ts' vs
 | [],ts',vs,e,r=>by cases mapM_nil e;unfold qJ at r ⊢;exact r
 |t::ts,ts',vs,e,r=>by
  obtain⟨y,ys,e1,e2,rfl⟩:=mapM_cons e;unfold qJ at r ⊢;obtain⟨v,vs',rfl,a,b⟩:=r;exact⟨v,vs',rfl,hf _ _ _ e1 a,jf hf e2 b⟩
theorem N4(R:RelM gl (A++B) (X++B) h M1)(hB:∀b∈B,b∉X):∀(d:Nat) (t t':T) (w:V),qM M1 A.length d t=some t'->Rep (A++B) (X++B) h t w->Rep A X h t' w:=by
 have hu:∀(t:T) (w:V),t.und A.length=true->Rep (A++B) (X++B) h t w->Rep A X h t w:=λt w u r=>U3 (λn hn=>wC hn) (λa ha=>wQ _ ha) t r u;have hX:∀a,a∉X++B->a∉X:=λa x z=>x (wQ _ z);intro d
 induction d with
 |zero=>
  intro t t' w e r;unfold qM at e;split at e
  ·rename_i u;cases e;exact hu _ w u r
  ·cases e
 |succ d ih=>
  intro t t' w e r;unfold qM at e;split at e
  ·rename_i u;cases e;exact hu _ w u r
  ·rename_i u;cases t with
   |v x=>cases e
   |ob o=>cases e
   |dt ks ts=>cases e
   |fz ts=>cases e
   |lst ts=>
    obtain⟨ts',e1,rfl⟩:=wA.mp e;unfold Rep at r ⊢;obtain⟨a,vs,rfl,q1,q2,q3⟩:=r;exact⟨a,vs,rfl,hX a q1,q2,jf ih e1 q3⟩
   |tup ts=>
    obtain⟨ts',e1,rfl⟩:=wA.mp e;unfold Rep at r ⊢;obtain⟨a,vs,rfl,q1,q2,q3⟩:=r;exact⟨a,vs,rfl,hX a q1,q2,jf ih e1 q3⟩
   |cell n=>
    obtain⟨ts,e0,e⟩:=wK.mp (show (M1[n]?).bind _=_ from e);obtain⟨ts',e1,rfl⟩:=wA.mp e;have hn:A.length<=n:=by
     unfold T.und at u;simpa using u
    unfold Rep at r ⊢;obtain⟨a,ea,rfl⟩:=r;obtain⟨ts2,vs,g1,g2,g3⟩:=R.at_ n a ea;rw[e0]at g1;cases g1;rw[wR hn]at ea;exact⟨a,vs,rfl,hB a (wS ea),g2,jf ih e1 g3⟩
mutual
theorem qAL(n:Nat):∀(t:T),t.lf=true->t.und n=true
 | .v x,_=>rfl
 | .cell _,l=>by unfold T.lf at l;cases l
 | .ob _,_=>rfl
 | .dt _ _,l=>by unfold T.lf at l;cases l
 | .fz _,l=>by unfold T.lf at l;cases l
 | .lst _,l=>by unfold T.lf at l;cases l
 | .tup ts,l=>by unfold T.lf at l;unfold T.und;exact B8 n ts l
theorem B8(n:Nat):∀(ts:List T),T.lfs ts=true->T.unds n ts=true
 | [],_=>rfl
 |t::ts,l=>by unfold T.lfs at l;rw[wE]at l;unfold T.unds;rw[qAL n t l.1,B8 n ts l.2];rfl
end
theorem Z8{n0:Nat}{f:T->Option (List Nat)}(hf:∀t l,f t=some l->t.und n0=true->t.lf=true):∀{ts:List T}{ls:List (List Nat)},ts.mapM f=some ls->T.unds n0 ts=true->T.lfs ts=true
 | [],ls,e,u=>rfl
 |t::ts,ls,e,u=>by
  obtain⟨y,ys,e1,e2,rfl⟩:=mapM_cons e;unfold T.unds at u;rw[wE]at u;unfold T.lfs;rw[hf t _ e1 u.1,Z8 hf e2 u.2];rfl
theorem S7{n0:Nat}:∀(d:Nat) (t:T) (l:List Nat),jM M1 n0 d t=some l->t.und n0=true->t.lf=true:=by
 intro d
 induction d with
 |zero=>intro t l e u;unfold jM at e;split at e<;>first|assumption|cases e
 |succ d ih=>
  intro t l e u;unfold jM at e;split at e
  ·assumption
  ·cases t with
   |tup ts=>
    obtain⟨ls,e1,rfl⟩:=wA.mp e;unfold T.und at u;unfold T.lf;exact Z8 ih e1 u
   |cell n=>
    dsimp only at e;split at e
    ·rename_i hn;unfold T.und at u;simp at u;omega
    ·cases e
   |v x=>cases e
   |ob o=>cases e
   |dt ks ts=>cases e
   |fz ts=>cases e
   |lst ts=>cases e
theorem JB{A1 X1:List Nat}{n0:Nat}{f:T->Option (List Nat)}{g:T->Option T}(hf:∀t l t' w,f t=some l->g t=some t'->Rep A1 X1 h t w->∃fp,FP X h t' w fp/\fp.map some=l.map (A1[·]?)/\∀n∈l,n0<=n):
  ∀{ts ts':List T}{ls:List (List Nat)}{vs:List V},ts.mapM f=some ls->ts.mapM g=some ts'->qJ A1 X1 h ts vs->∃fp,FPs X h ts' vs fp/\fp.map some=ls.flatten.map (A1[·]?)/\∀n∈ls.flatten,n0<=n
 | [],ts',ls,vs,e,e',r=>by
  cases mapM_nil e;cases mapM_nil e';unfold qJ at r;exact⟨[],by unfold FPs;exact⟨r,rfl⟩,rfl,λn hn=>by simp at hn⟩
 |t::ts,ts',ls,vs,e,e',r=>by
  obtain⟨y,ys,e1,e2,rfl⟩:=mapM_cons e;obtain⟨z,zs,e3,e4,rfl⟩:=mapM_cons e';unfold qJ at r;obtain⟨v,vs',rfl,a,b⟩:=r;obtain⟨f1,p1,q1,n1⟩:=hf _ _ _ _ e1 e3 a;obtain⟨f2,p2,q2,n2⟩:=JB hf e2 e4 b;refine⟨f1++f2,by unfold FPs;exact⟨v,vs',f1,f2,rfl,p1,p2,rfl⟩,by simp[q1,q2],λn hn=>?_⟩;rw[List.flatten_cons]at hn;rcases wL.mp hn with z|z
  ·exact n1 n z
  ·exact n2 n z
theorem ZD{n0:Nat}{d:Nat}{t t':T}(u:t.und n0=true)(e:qM M1 n0 d t=some t'):t'=t:=by
 cases d<;>(unfold qM at e;rw[if_pos u]at e;cases e;rfl)
theorem j9(R:RelM gl (A++B) (X++B) h M1)(hB:∀b∈B,b∉X):∀(d:Nat) (t:T) (l:List Nat) (t':T) (w:V),jM M1 A.length d t=some l->qM M1 A.length d t=some t'->Rep (A++B) (X++B) h t w ->
  ∃fp,FP X h t' w fp/\fp.map some=l.map ((A++B)[·]?)/\∀n∈l,A.length<=n:=by
 have hX:∀a,a∉X++B->a∉X:=λa x z=>x (wQ _ z);have lfc:∀{d:Nat}{t t':T}{w:V},t.lf=true->qM M1 A.length d t=some t'->Rep (A++B) (X++B) h t w->∃fp:List Nat,FP X h t' w fp/\fp.map some=([]:List Nat).map ((A++B)[·]?)/\∀n∈([]:List Nat),A.length<=n:=by
  intro d t t' w l e r;cases ZD (qAL _ t l) e;exact⟨[],Zj (λa o x y=>⟨hX a x,y⟩) _ (qBu _ r l),rfl,λn hn=>by simp at hn⟩
 intro d
 induction d with
 |zero=>
  intro t l t' w e e' r;unfold jM at e;split at e
  ·rename_i hl;cases e;exact lfc hl e' r
  ·cases e
 |succ d ih=>
  intro t l t' w e e' r;unfold jM at e;split at e
  ·rename_i hl;cases e;exact lfc hl e' r
  ·rename_i hl;have hu:t.und A.length≠true:=λu=>hl (S7 (M1:=M1) (d+1) t l (by unfold jM;rw[if_neg hl];exact e) u);unfold qM at e';rw[if_neg hu]at e';cases t with
   |tup ts=>
    obtain⟨ls,e1,rfl⟩:=wA.mp e;obtain⟨ts',e2,rfl⟩:=wA.mp e';unfold Rep at r;obtain⟨a,vs,rfl,q1,q2,q3⟩:=r;obtain⟨fp,p1,p2,p3⟩:=JB ih e1 e2 q3;exact⟨fp,by unfold FP;exact⟨a,vs,rfl,hX a q1,q2,p1⟩,p2,p3⟩
   |cell n=>
    dsimp only at e e';split at e
    ·rename_i hn;obtain⟨ts,e0,e⟩:=wK.mp e;obtain⟨ls,e1,rfl⟩:=wA.mp e;rw[e0]at e';dsimp only[Option.bind_some]at e';obtain⟨ts',e2,rfl⟩:=wA.mp e';unfold Rep at r;obtain⟨a,ea,rfl⟩:=r;obtain⟨ts2,vs,g1,g2,g3⟩:=R.at_ n a ea;rw[e0]at g1;cases g1;obtain⟨fp,p1,p2,p3⟩:=JB ih e1 e2 g3;have ea2:=ea;rw[wR hn]at ea2;refine⟨fp++[a],by unfold FP;exact⟨a,vs,fp,rfl,hB a (wS ea2),g2,p1,rfl⟩,?_,λm hm=>?_⟩
     ·rw[vH,vH,p2];simp[ea]
     ·rcases wL.mp hm with z|z
      ·exact p3 m z
      ·simp at z;omega
    ·cases e
   |v x=>cases e
   |ob o=>cases e
   |dt ks ts=>cases e
   |fz ts=>cases e
   |lst ts=>cases e
theorem JE{X' Y:List Nat}(R:RelM gl (A++B) Y h M1)(hX:∀a∈X',a∈Y)(hA:∀a∈A,a∈X')(hc:(M1.take A.length).all (T.unds A.length)=true)(hg:∀(g:Nat) t,gl[g]?=some t->Rep A X' h t (.ref g)):RelM gl A X' h (M1.take A.length):=by
 have l:=R.len;rw[wW]at l;refine⟨by rw[vI];omega,(vE.mp R.nd).1,hA,λa ha=>R.lt a (hX a ha),λn a e=>?_,hg⟩;have hn:=(wB.mp e).1;obtain⟨ts,vs,e1,e2,e3⟩:=R.at_ n a (jX n a e);refine⟨ts,vs,by rw[wu hn];exact e1,e2,jH (λn hn=>wC hn) hX ts e3 ?_⟩;rw[vA]at hc;refine hc ts (wS (i:=n) ?_);rw[wu hn];exact e1
theorem N5{M:Mem}{n0 d:Nat}{t:T}{o:Ob}(h:qM M n0 d t=some (.ob o)):t=.ob o:=by
 cases d with
 |zero=>
  unfold qM at h;split at h
  ·cases h;rfl
  ·cases h
 |succ d=>
  unfold qM at h;split at h
  ·cases h;rfl
  ·cases t with
   |lst ts=>cases hh:ts.mapM (qM M n0 d)<;>simp[hh]at h
   |tup ts=>cases hh:ts.mapM (qM M n0 d)<;>simp[hh]at h
   |cell n=>
    cases hm:M[n]? with
    |none=>simp[hm]at h
    |some ts=>cases hh:ts.mapM (qM M n0 d)<;>simp[hm,hh]at h
   |_=>cases h
theorem Jn(R0:RelM gl A X h M)(f:Frm A h h')(hB:∀b∈B,h.length<=b)(R:RelM gl (A++B) (X++B) h' M1){x:TB}{w:V}(q:QE gl (A++B) (X++B) h.length x w h' M1):Sim gl A X h (QE gl A X h.length) (finish M.length x M1) (.ok (w,h')):=by
 have hBX:∀b∈B,b∉X:=λb z y=>by have:=hB b z;have:=R0.lt b y;omega
 have hX:∀a,a∉X++B->a∉X:=λa x z=>x (wQ _ z);have hg:∀{Z:List Nat},(∀a∈Z,h.length<=a)->∀(g:Nat) t,gl[g]?=some t->Rep A (X++Z) h' t (.ref g):=λhZ g t e=>qm (λ_ _ e=>e) (λa o x y=>⟨by
   rw[wL];rintro(z|z)
   ·exact x z
   ·have:=hZ a z;have:=qG y;omega,(R0.keepN f a o x y).2⟩) t (R0.glo g t e)
 unfold finish;rw[<-R0.len];split
 ·rename_i hl;have hB0:B=[]:=by
   have:=R.len;rw[wW,hl]at this;exact wc.mp (by omega)
  subst hB0;rw[wX,wX]at R q;exact⟨w,h',rfl,f,R,q⟩
 split
 ·rename_i hc;refine tJ λt' et=>?_;have R':RelM gl A X h' (M1.take A.length):=by
   have:=JE (X':=X++[]) R (λa ha=>by simp at ha;exact wQ _ ha) (λa ha=>by simp;exact R0.sub a ha) hc (hg λa ha=>by simp at ha);simpa using this
  refine⟨w,h',rfl,f,R',N4 R hBX 6 _ _ _ et q.1,λe=>?_⟩;rw[va]at e;rcases e with e|e
  ·obtain⟨fp,p,nd,l,Rf,nw⟩:=q.2 e;cases ZD (qAj A.length _ p) et;have cr:∀{Z:List Nat},(∀a∈Z,h.length<=a)->RelM gl (A++B) (X++B++Z) h' M1->RelM gl A (X++Z) h' (M1.take A.length):=λ{Z} hZ q=>JE q (λa ha=>by
    rcases wL.mp ha with z|z
    ·exact wQ _ (wQ _ z)
    ·exact wT _ z) (λa ha=>wQ _ (R0.sub a ha)) hc (hg hZ)
   exact⟨fp,Zj (λa o x y=>⟨hX a x,y⟩) _ p,nd,l,cr l Rf,λkvs e=>by
    obtain⟨a,q1,q2,q3⟩:=nw kvs e;exact⟨a,q1,q2,cr (λz hz=>by rw[wY.mp hz];exact q2) q3⟩⟩
  ·unfold frR at e;split at e
   ·rename_i l el;have ndl:l.Nodup:=by simpa using e
    obtain⟨fp,p,pm,pn⟩:=j9 R hBX 6 _ _ _ _ el et q.1;have fB:∀a∈fp,a∈B:=λa ha=>by
     have:some a∈fp.map some:=List.mem_map_of_mem ha;rw[pm]at this;obtain⟨n,hn,en⟩:=vN.mp this;rw[wR (pn n hn)]at en;exact wS en
    have nd:fp.Nodup:=by
     have:(fp.map some).Nodup:=by
      rw[pm];refine vk.mpr (List.Pairwise.imp_of_mem ?_ ndl);intro n m hn hm hnm e;have:(A++B)[n]?∈fp.map some:=by rw[pm];exact List.mem_map_of_mem hn
      obtain⟨a,_,ea⟩:=vN.mp this;exact hnm ((List.getElem?_inj (wB.mp ea.symm).1 R.nd).mp e)
     exact(vk.mp this).imp λ{a b} z e=>z (by rw[e])
    refine⟨fp,p,nd,λa ha=>hB a (fB a ha),JE R (λa ha=>?_) (λa ha=>wQ _ (R0.sub a ha)) hc (hg λa ha=>hB a (fB a ha)),λkvs e=>by have e:t'=.ob (.dct kvs):=e;subst e;rw[N5 et]at el;simp[jM,T.lf]at el⟩;rcases wL.mp ha with z|z
    ·exact wQ _ z
    ·exact wT _ (fB a z)
   ·cases e
 ·exact Sim.stuck
end
theorem qCk(gl:List T)(tb:List Fn)(Cs:List (List Nat)):∀(k f:Nat) (ts:List T) (ws:List V) (A X:List Nat) (h:AH) (M:Mem),RelM gl A X h M->qJ A X h ts ws->Sim gl A X h (QE gl A X h.length) (Pk gl tb Cs k f ts M) (Fk tb k f ws h)
 | 0,f,ts,ws,A,X,h,M,R,rs=>Sim.stuck
 |k+1,f,ts,ws,A,X,h,M,R,rs=>by
  unfold Pk Fk;cases ed:tb[f]? with
  |none=>exact Sim.stuck
  |some d=>
   dsimp only;rw[<-qC (reps_iff.mp rs)];split
   ·have s:=Jb (Cs.getD f []) (qCk gl tb Cs k) d.body A X h M _ _ R (Jk (d.nslot-d.npar) rs);revert s;generalize pxs gl (Pk gl tb Cs k) (Cs.getD f []) d.body (ts.map some++List.replicate (d.nslot-d.npar) none) M=r;generalize exs (Fk tb k) d.body (ws.map some++List.replicate (d.nslot-d.npar) none) h=rh;intro s;cases r with
    |stuck=>exact Sim.stuck
    |exc c M1=>
     obtain⟨h',B,rfl,f1,hB,R1⟩:=s;show Sim gl A X h _ (if _ then _ else if _ then _ else _) _;split
     ·rename_i hl;have hB0:B=[]:=by
       have:=R1.len;rw[wW,hl,R.len]at this;exact wc.mp (by omega)
      subst hB0;rw[wX,wX]at R1;exact⟨h',rfl,f1,R1⟩
     split
     ·rename_i hc;refine⟨h',rfl,f1,?_⟩;rw[<-R.len]at hc ⊢;exact JE R1 (λa ha=>wQ _ ha) R.sub hc λg t e=>R.keep f1 (R.glo g t e)
     ·exact Sim.stuck
    |ok p=>
     obtain⟨o,M1⟩:=p;obtain⟨oh,h',B,rfl,f1,hB,R1,ro⟩:=s;rw[tF];cases o with
     |nx σ=>
      cases oh<;>first|exact ro.elim|skip
      have r:Rep (A++B) (X++B) h' (.v .non) .non:=by unfold Rep;exact⟨rfl,rfl⟩
      exact Jn R f1 hB R1 (show QE gl (A++B) (X++B) h.length (.v .non,true) .non h' M1 from⟨r,λ_=>Frs.of_lf R1 r rfl⟩)
     |rt t=>
      cases oh<;>first|exact ro.elim|skip
      exact Jn R f1 hB R1 ro
     |bk σ=>exact Sim.stuck
     |ct σ=>exact Sim.stuck
   ·exact Sim.stuck
noncomputable def glT(gs:List O):List T:=gs.map λo=>match o with | .tup xs=>.tup (xs.map .v) | .lst _ xs=>.fz (xs.map .v) | .ob _=>.v .non
noncomputable def qC8(gs:List O):Bool:=gs.all λo=>match o with | .tup xs=>xs.all flat|_=>false
theorem qDb{gs:List O}{tb:List Fn}{Cs:List (List Nat)}{k i:Nat}{ns:List Int}{b:Bool}{M':Mem}(hg:qC8 gs=true)(e:Pk (glT gs) tb Cs k i [.fz (ns.map λn=>.v (.int n))] []=.ok ((.v (.bl true),b),M')):
  ∃h',Fk tb k i [.ref gs.length] (gs++[.lst true (ns.map V.int)])=.ok (.bl true,h'):=by
 have R:RelM (glT gs) [] [] (gs++[.lst true (ns.map V.int)]) []:=by
  refine⟨rfl,vd,λa ha=>by simp at ha,λa ha=>by simp at ha,λn a e=>by simp at e,λg t eg=>?_⟩;unfold glT at eg;rw[wl]at eg;obtain⟨o,eo,rfl⟩:=wA.mp eg;unfold qC8 at hg;rw[vA]at hg;have ho:=hg o (wS eo);cases o with
  |lst _ _=>cases ho
  |ob _=>cases ho
  |tup xs=>
   dsimp only;unfold Rep;exact⟨g,xs,rfl,by simp,by rw[wC (wB.mp eo).1];exact eo,jk ho⟩
 have rs:qJ [] [] (gs++[O.lst true (ns.map V.int)]) [.fz (ns.map λn=>.v (.int n))] [.ref gs.length]:=by
  unfold qJ;refine⟨_,[],rfl,?_,by unfold qJ;rfl⟩;unfold Rep;refine⟨gs.length,ns.map V.int,rfl,by simp,by simp,?_⟩;have:ns.map (λn=>T.v (.int n))=(ns.map V.int).map .v:=by rw[vL];rfl
  rw[this];exact jk (by simp[flat])
 have s:=qCk (glT gs) tb Cs k i _ _ [] [] _ [] R rs;rw[e]at s;obtain⟨w,h',e1,_,_,q⟩:=s;cases qo q.1;exact⟨h',e1⟩
theorem qAe{tb:List Fn}{j:Nat}{d:Fn}{b:Ss}(e:tb[j]?=some d)(hb:∀F σ h,exs F d.body σ h=exs F b σ h):∀(k f:Nat) (vs:List V) (h:AH),Fk tb k f vs h=Fk (tb.set j ⟨d.npar,d.nslot,b⟩) k f vs h
 | 0,_,_,_=>rfl
 |k+1,f,vs,h=>by
  have ih:Fk tb k=Fk (tb.set j ⟨d.npar,d.nslot,b⟩) k:=by funext f vs h;exact qAe e hb k f vs h
  unfold Fk;by_cases hf:f=j
  ·subst hf;rw[e,wZ (wB.mp e).1,ih];dsimp only;rw[hb]
  ·rw[wV (Ne.symm hf),ih]
noncomputable def qD8(t:T):Option TB:=match t with | .v (.int i)=>some (iT (-i))|_=>none
noncomputable def qDP(M:Mem)(p k x:T):Option Mem:=match p,k with
 | .cell n,.v (.int j)=>(M[n]?).bind λxs=>(_L.ixN xs.length j).map λj=>M.set n (xs.set j x)
 |_,_=>none
noncomputable def i7(M:Mem)(n:Nat)(x:T):Option Mem:=(M[n]?).bind λxs=>if xs.length<lim then some (M.set n (xs++[x])) else none
noncomputable def Z6(t:T):Option (List T):=match t with | .v (.int j)=>if -1000000<=j/\j<=100000 then some (qf 0 j.toNat) else none|_=>none
noncomputable def qB9(t:T):Option (List T):=match t with | .v (.int j)=>if -1000000<=j/\j<=1000000 then some (qf 0 j.toNat) else none|_=>none
section
variable{gl:List T}{P:Nat->List T->Mem->PR (TB×Mem)}{C:List Nat}{σ:TS}{M:Mem}{a b c e:E}{as lo hi:Es}
@[simp] theorem pe_var(i:Nat):pe gl P (.var i) σ M=match σ[i]? with|some (some t)=>.ok ((t,t.lf),M)|_=>.stuck:=Eq.trans rfl rfl
@[simp] theorem pe_int(i:Int):pe gl P (.cst (.int i)) σ M=.ok (iT i,M):=Eq.trans rfl rfl
@[simp] theorem pe_bl(i:Bool):pe gl P (.cst (.bl i)) σ M=.ok (bT i,M):=Eq.trans rfl rfl
@[simp] theorem pe_non:pe gl P (.cst .non) σ M=.ok ((.v .non,true),M):=Eq.trans rfl rfl
@[simp] theorem pe_str(s:PySem.Str):pe gl P (.cst (.str s)) σ M=.ok ((.v (.str s),true),M):=Eq.trans rfl rfl
@[simp] theorem pe_glob(g:Nat):pe gl P (.glob g) σ M=match gl[g]? with|some t=>.ok ((t,t.lf),M)|none=>.stuck:=Eq.trans rfl rfl
@[simp] theorem qCP(op:BOp):pe gl P (.bin op a b) σ M=(pe gl P a σ M).bind λp=>(pe gl P b σ p.2).bind λq=>(tH (qr q.2 op p.1.1 q.1.1)).bind λr=>.ok (r,q.2):=Eq.trans rfl rfl
@[simp] theorem qFW:pe gl P (.neg a) σ M=(pe gl P a σ M).bind λp=>(tH (qD8 p.1.1)).bind λr=>.ok (r,p.2):=by
 show PR.bind _ _=_;dsimp only;congr 1;funext p;obtain⟨⟨p1,p3⟩,p2⟩:=p;dsimp only;unfold qD8;cases p1<;>first|rfl|skip
 rename_i x;cases x<;>rfl
@[simp] theorem qAM(op:COp):pe gl P (.cmp op a b) σ M=(pe gl P a σ M).bind λp=>(pe gl P b σ p.2).bind λq=>(tH (zB q.2 op p.1.1 q.1.1)).bind λr=>.ok (bT r,q.2):=Eq.trans rfl rfl
@[simp] theorem qEc(o1 o2:COp):pe gl P (.cmp2 o1 o2 a b c) σ M=(pe gl P a σ M).bind λp=>(pe gl P b σ p.2).bind λq=>(tH (zB q.2 o1 p.1.1 q.1.1)).bind λr=>
  if r=true then (pe gl P c σ q.2).bind λz=>(tH (zB z.2 o2 q.1.1 z.1.1)).bind λr=>.ok (bT r,z.2) else .ok (bT false,q.2):=Eq.trans rfl rfl
@[simp] theorem pe_and:pe gl P (.and a b) σ M=(pB (pe gl P a σ M)).bind λp=>if p.1=true then pe gl P b σ p.2 else .ok (bT false,p.2):=Eq.trans rfl rfl
@[simp] theorem pe_or:pe gl P (.or a b) σ M=(pB (pe gl P a σ M)).bind λp=>if p.1=true then .ok (bT true,p.2) else pe gl P b σ p.2:=Eq.trans rfl rfl
@[simp] theorem pe_not:pe gl P (.not a) σ M=(pB (pe gl P a σ M)).bind λp=>.ok (bT (!p.1),p.2):=Eq.trans rfl rfl
@[simp] theorem qCd:pe gl P (.ite c a b) σ M=(pB (pe gl P c σ M)).bind λp=>if p.1=true then pe gl P a σ p.2 else pe gl P b σ p.2:=Eq.trans rfl rfl
@[simp] theorem pe_call(f:Nat):pe gl P (.call f as) σ M=(pes gl P as σ M).bind λp=>(P f (p.1.map (·.1)) p.2).nx:=Eq.trans rfl rfl
@[simp] theorem qCI(f:BF):pe gl P (.blt f as) σ M=(pes gl P as σ M).bind λp=>(tH (QC p.2 f (p.1.map (·.1)))).bind λr=>.ok (r,p.2):=Eq.trans rfl rfl
@[simp] theorem qDR(ts:List String):pe gl P (.isi a ts) σ M=(pe gl P a σ M).bind λp=>(tH (zj p.2 p.1.1)).bind λt=>.ok (bT (ts.any (QW t)),p.2):=Eq.trans rfl rfl
@[simp] theorem qC5:pe gl P (.idx a b) σ M=(pe gl P a σ M).bind λp=>(pe gl P b σ p.2).bind λq=>(tH (Jd q.2 p.1.1 q.1.1)).bind λr=>.ok (r,q.2):=Eq.trans rfl rfl
@[simp] theorem qER:pe gl P (.sl a lo hi) σ M=(pe gl P a σ M).bind λp=>(pes gl P lo σ p.2).bind λl=>(pes gl P hi σ l.2).bind λu=>
  (tH (p.1.1.its u.2)).bind λxs=>(tH (qW (l.1.map (·.1)))).bind λi=>(tH (qW (u.1.map (·.1)))).bind λj=>(tH (p9 p.1.1 xs i.head? j.head?)).bind λr=>.ok (r,u.2):=Eq.trans rfl rfl
@[simp] theorem u6:pe gl P (.index a b) σ M=(pe gl P a σ M).bind λp=>(tH (p.1.1.sel a.isGlob p.2)).bind λ_=>(pe gl P b σ p.2).bind λq=>(tH (ZY a.isGlob q.2 p.1.1 q.1.1)).bind λr=>.ok (r,q.2):=Eq.trans rfl rfl
@[simp] theorem pe_lst:pe gl P (.lst as) σ M=(pes gl P as σ M).bind λp=>if p.1.length<=lim then .ok ((.lst (p.1.map (·.1)),p.1.all (·.2)),p.2) else .stuck:=Eq.trans rfl rfl
@[simp] theorem pe_tup:pe gl P (.tup as) σ M=(pes gl P as σ M).bind λp=>if p.1.length<=lim then .ok ((.tup (p.1.map (·.1)),p.1.all (·.2)),p.2) else .stuck:=Eq.trans rfl rfl
@[simp] theorem pe_comp(it:Itr)(src:List (Option Nat))(g:Tg)(c:Es):pe gl P (.comp it src g c e) σ M=(pei gl P it σ M).bind λp=>qU p.1.2 g (pec gl P c) (pe gl P e) p.1.1 [] true (zC src σ) p.2:=Eq.trans rfl rfl
@[simp] theorem qCG:pe gl P (.app a b) σ M=(pe gl P a σ M).bind λp=>match p.1.1 with
  | .cell n=>(pe gl P b σ p.2).bind λq=>(tH (i7 q.2 n q.1.1)).bind λM'=>.ok ((.v .non,true),M')
  |_=>.stuck:=by
 show PR.bind _ _=_;dsimp only;congr 1;funext p;obtain⟨⟨p1,p3⟩,p2⟩:=p;dsimp only;cases p1<;>dsimp only;congr 1;funext q;obtain⟨⟨q1,q3⟩,q2⟩:=q;dsimp only;unfold i7;rename_i n;cases h:q2[n]? with
 |none=>rfl
 |some xs=>
  dsimp only[Option.bind_some];split<;>rfl
theorem qB3:pe gl P (.sset a) σ M=(pe gl P a σ M).bind λp=>(tH ((p.1.1.lis p.2).bind qW)).bind λis=>if is.length<1000/\(uniq is).length<64 then .ok ((.lst ((QJ (uniq is)).map λi=>.v (.int i)),true),p.2) else .stuck:=by
 show PR.bind _ _=_;dsimp only;congr 1;funext p;obtain⟨⟨p1,p3⟩,p2⟩:=p;dsimp only;cases (p1.lis p2).bind qW<;>rfl
@[simp] theorem qDN:pe gl P (.dix a b) σ M=(pe gl P a σ M).bind λp=>(pe gl P b σ p.2).bind λq=>(tH (qCE p.1.1 q.1.1)).bind λr=>.ok (r,q.2):=Eq.trans rfl rfl
@[simp] theorem qBy:pe gl P (.lrng a) σ M=(pe gl P a σ M).bind λp=>(tH (Z6 p.1.1)).bind λxs=>.ok ((.lst xs,true),p.2):=by
 show PR.bind _ _=_;dsimp only;congr 1;funext p;obtain⟨⟨p1,p3⟩,p2⟩:=p;dsimp only;unfold Z6;cases p1<;>first|rfl|skip
 rename_i x;cases x<;>first|rfl|skip
 dsimp only;split<;>rfl
@[simp] theorem qBJ(m:Mt):pe gl P (.meth m a as) σ M=(pe gl P a σ M).bind λp=>match p.1.1 with
  | .cell n=>(pes gl P as σ p.2).bind λq=>tH (JW m n (q.1.map (·.1)) q.2)
  |_=>.stuck:=Eq.trans rfl rfl
@[simp] theorem qEC:pe gl P .dnew σ M=.ok ((.ob (.dct []),true),M):=Eq.trans rfl rfl
@[simp] theorem qES:pes gl P .nil σ M=.ok ([],M):=Eq.trans rfl rfl
@[simp] theorem w5:pes gl P (.cons a as) σ M=(pe gl P a σ M).bind λp=>(pes gl P as σ p.2).bind λq=>.ok (p.1::q.1,q.2):=Eq.trans rfl rfl
@[simp] theorem qEi:pec gl P .nil σ M=.ok (true,M):=Eq.trans rfl rfl
@[simp] theorem G9:pec gl P (.cons a as) σ M=pB (pe gl P a σ M):=Eq.trans rfl rfl
@[simp] theorem w4:pei gl P (.list a) σ M=(pe gl P a σ M).bind λp=>(tH (JU p.2 p.1.1)).bind λs=>.ok (s,p.2):=Eq.trans rfl rfl
@[simp] theorem k7:pei gl P (.rng1 a) σ M=(pe gl P a σ M).bind λp=>(tH (qB9 p.1.1)).bind λxs=>.ok ((xs,[]),p.2):=by
 show PR.bind _ _=_;dsimp only;congr 1;funext p;obtain⟨⟨p1,p3⟩,p2⟩:=p;dsimp only;unfold qB9;cases p1<;>first|rfl|skip
 rename_i x;cases x<;>first|rfl|skip
 dsimp only;split<;>rfl
@[simp] theorem qEp:pei gl P (.zip a b) σ M=(pe gl P a σ M).bind λp=>(pe gl P b σ p.2).bind λq=>(tH (l7 q.2 p.1.1)).bind λs=>(tH (l7 q.2 q.1.1)).bind λt=>
  .ok ((List.zipWith (λa b=>T.tup [a,b]) s.1 t.1,s.2++t.2),q.2):=Eq.trans rfl rfl
variable{s:S}{r t u:Ss}
@[simp] theorem C1(i:Nat):px gl P C (.asg (.name i) e) σ M=(pe gl P e σ M).bind λp=>if (C.contains i&&p.1.2)=true then .ok (.nx (σ.set i (some (thaw p.2.length p.1.1).1)),p.2++(thaw p.2.length p.1.1).2) else if (C.contains (i+1000)&&qCB e)=true then (match p.1.1 with | .lst ts=>.ok (.nx (σ.set i (some (.cell p.2.length))),p.2++[ts])|_=>.stuck) else .ok (.nx (σ.set i (some p.1.1)),p.2):=Eq.trans rfl rfl
@[simp] theorem qCH(is:List Nat):px gl P C (.asg (.tup is) e) σ M=(pe gl P e σ M).bind λp=>match zd (.tup is) p.1.1 σ with|some σ1=>.ok (.nx σ1,p.2)|none=>.stuck:=Eq.trans rfl rfl
@[simp] theorem qDF{o i v:E}:px gl P C (.put o i v) σ M=(pe gl P v σ M).bind λx=>(pe gl P o σ x.2).bind λp=>(pe gl P i σ p.2).bind λk=>(tH (qDP k.2 p.1.1 k.1.1 x.1.1)).bind λM'=>.ok (.nx σ,M'):=by
 show PR.bind _ _=_;dsimp only;congr 1;funext x;congr 1;funext p;congr 1;funext k;obtain⟨⟨k1,k3⟩,k2⟩:=k;obtain⟨⟨p1,p3⟩,p2⟩:=p;dsimp only;unfold qDP;cases p1<;>first|rfl|skip
 rename_i n;cases k1<;>first|rfl|skip
 rename_i y;cases y<;>first|rfl|skip
 rename_i j;dsimp only;cases h:k2[n]? with
 |none=>rfl
 |some xs=>
  dsimp only[Option.bind_some];have hj:_P.ixN xs.length j=_L.ixN xs.length j:=rfl;rw[hj];cases _L.ixN xs.length j with
  |none=>rfl
  |some j=>rfl
@[simp] theorem W2:px gl P C (.expr e) σ M=(pe gl P e σ M).bind λp=>.ok (.nx σ,p.2):=Eq.trans rfl rfl
@[simp] theorem qDz:px gl P C (.ret e) σ M=(pe gl P e σ M).bind λp=>.ok (.rt p.1,p.2):=Eq.trans rfl rfl
@[simp] theorem qDk:px gl P C (.ifs c t u) σ M=(pB (pe gl P c σ M)).bind λp=>if p.1=true then pxs gl P C t σ p.2 else pxs gl P C u σ p.2:=Eq.trans rfl rfl
@[simp] theorem qCK(g:Tg)(it:Itr):px gl P C (.for_ g it t) σ M=(pei gl P it σ M).bind λp=>zN p.1.2 g (pxs gl P C t) p.1.1 σ p.2:=Eq.trans rfl rfl
theorem qCq(u x:Nat)(e k v:E):px gl P C (.dlp u x e k v) σ M=if u=x\/σ.length<=u\/σ.length<=x then .stuck else (pei gl P (.list e) (σ.set u none) M).bind λp=>(h8 p.1.2 x (pe gl P k) (pe gl P v) p.1.1 [] [] (σ.set u none) p.2).bind λq=>if q.1.2.1=[] then .stuck else .ok (.nx (q.1.2.2.set u (some (.dt q.1.1 q.1.2.1))),q.2):=Eq.trans rfl rfl
@[simp] theorem qEA:px gl P C .stop σ M=.stuck:=Eq.trans rfl rfl
@[simp] theorem qEl:pxs gl P C .nil σ M=.ok (.nx σ,M):=Eq.trans rfl rfl
@[simp] theorem qd:pxs gl P C (.cons s r) σ M=(px gl P C s σ M).bind λp=>match p.1 with
  | .nx σ1=>pxs gl P C r σ1 p.2
  |o=>.ok (o,p.2):=Eq.trans rfl rfl
@[simp] theorem qE1(x:Bool):pB (.ok (bT x,M))=.ok (x,M):=Eq.trans rfl rfl
@[simp] theorem qGz(x f:Bool):pB (.ok ((T.v (.bl x),f),M))=.ok (x,M):=Eq.trans rfl rfl
@[simp] theorem qD5:pB .stuck=.stuck:=Eq.trans rfl rfl
@[simp] theorem qD2{α β:Type}(c:Nat)(M:Mem)(f:α->PR β):(PR.exc c M:PR α).bind f=.exc c M:=Eq.trans rfl rfl
end
@[simp] theorem qGl(x:V):T.lf (.v x)=true:=by rw[T.lf]
@[simp] theorem qBD(n:Nat):T.lf (.cell n)=false:=by rw[T.lf]<;>simp
@[simp] theorem qFJ(xs:List T):T.lf (.lst xs)=false:=by rw[T.lf]<;>simp
@[simp] theorem qFO(xs:List T):T.lf (.tup xs)=T.lfs xs:=by rw[T.lf]
@[simp] theorem qEh:T.lfs []=true:=by rw[T.lfs]
@[simp] theorem qAB(x:T)(xs:List T):T.lfs (x::xs)=(x.lf&&T.lfs xs):=by rw[T.lfs]
@[simp] theorem iT1(i:Int):(iT i).1=.v (.int i):=rfl
@[simp] theorem iT2(i:Int):(iT i).2=true:=rfl
@[simp] theorem bT1(i:Bool):(bT i).1=.v (.bl i):=rfl
@[simp] theorem bT2(i:Bool):(bT i).2=true:=rfl
@[simp] theorem lT1(xs:List T):(lT xs).1=.lst xs:=rfl
@[simp] theorem lT2(xs:List T):(lT xs).2=T.lfs xs:=rfl
@[simp] theorem qGA(x:V):T.isV (.v x)=some x:=rfl
@[simp] theorem qEf(x:List T):T.isV (.lst x)=none:=rfl
@[simp] theorem qEv(x:List T):T.isV (.tup x)=none:=rfl
@[simp] theorem qD1(x:Nat):T.isV (.cell x)=none:=rfl
section
variable{M:Mem}(i j:Int) (xs ys:List T)
@[simp] theorem qFS:qr M .add (.v (.int i)) (.v (.int j))=some (iT (i+j)):=rfl
@[simp] theorem qCy:qr M .sub (.v (.int i)) (.v (.int j))=some (iT (i-j)):=rfl
@[simp] theorem qA9:qr M .band (.v (.int i)) (.v (.int j))=some (iT (PySem.Builtin.bitAnd i j)):=rfl
theorem qCr{i j:Int}(h:(-18446744073709551616<i/\i<18446744073709551616)\/(-18446744073709551616<j/\j<18446744073709551616)):qr M .mul (.v (.int i)) (.v (.int j))=some (iT (i*j)):=by
 show (if (QU i||QU j||(mid i&&mid j))=true then _ else _)=_;rw[if_pos];rcases h with h|h
 ·have:QU i=true:=by unfold QU two64;exact uG h
  rw[this];rfl
 ·have:QU j=true:=by unfold QU two64;exact uG h
  rw[this,uA];rfl
theorem qBo{i j:Int}(h:0<j/\j<1073741824):qr M .fdiv (.v (.int i)) (.v (.int j))=some (iT (i / j)):=by
 show (if 0<j/\(j<1073741824\/mid j=true) then _ else _)=_;rw[if_pos ⟨h.1,.inl h.2⟩]
theorem qDH{i j:Int}(h:0<j):qr M .mod (.v (.int i)) (.v (.int j))=some (iT (i % j)):=by
 show (if 0<j then _ else _)=_;rw[if_pos h]
theorem qDE{i j:Int}(h:0<=j/\j<=1000/\i.natAbs<18446744073709551616):qr M .pow (.v (.int i)) (.v (.int j))=some (iT (i ^ j.toNat)):=by
 show (if 0<=j/\j<=1000/\i.natAbs<18446744073709551616 then _ else _)=_;rw[if_pos h]
theorem J2{xs ys:List T}(h:xs.length+ys.length<=lim):qr M .add (.lst xs) (.lst ys)=some (lT (xs++ys)):=by
 show (if xs.length+ys.length<=lim then _ else _)=_;rw[if_pos h]
@[simp] theorem qEz:zB M .lt (.v (.int i)) (.v (.int j))=some (decide (i<j)):=rfl
@[simp] theorem qEK:zB M .le (.v (.int i)) (.v (.int j))=some (decide (i<=j)):=rfl
@[simp] theorem qEG:zB M .gt (.v (.int i)) (.v (.int j))=some (decide (j<i)):=rfl
@[simp] theorem qEq:zB M .ge (.v (.int i)) (.v (.int j))=some (decide (j<=i)):=rfl
@[simp] theorem qEo:zB M .eq (.v (.int i)) (.v (.int j))=some (decide (i=j)):=by
 show some (i==j)=_;congr 1
@[simp] theorem qE8:QC M .list [.lst xs]=some (lT xs):=rfl
@[simp] theorem qFH:QC M .list [.tup xs]=some (lT xs):=rfl
@[simp] theorem qAg:QC M .max [.v (.int i),.v (.int j)]=some (iT (if j>i then j else i)):=rfl
@[simp] theorem qC3:QC M .min [.v (.int i),.v (.int j)]=some (iT (if j<i then j else i)):=rfl
@[simp] theorem qGP:QC M .int [.v (.int i)]=some (iT i):=rfl
@[simp] theorem qGi:zj M (.v (.int i))=some "int":=rfl
@[simp] theorem qGo(b:Bool):zj M (.v (.bl b))=some "bool":=rfl
@[simp] theorem qGk:zj M (.lst xs)=some "list":=rfl
@[simp] theorem qGf:zj M (.tup xs)=some "tuple":=rfl
@[simp] theorem qGp(kvs:List (Int×V)):zj M (.ob (.dct kvs))=some "dict":=rfl
@[simp] theorem qGj:zj M (.v .non)=some "NoneType":=rfl
@[simp] theorem qFU:JU M (.lst xs)=some (xs,[]):=rfl
@[simp] theorem qFT:JU M (.tup xs)=some (xs,[]):=rfl
@[simp] theorem qFM:JU M (.fz xs)=some (xs,[]):=rfl
@[simp] theorem qFh:l7 M (.lst xs)=some (xs,[]):=rfl
end
@[simp] theorem lk0{α:Type}(x0:α)(l:List α):(x0::l)[0]?=some x0:=rfl
@[simp] theorem st0{α:Type}(x0 y:α)(l:List α):(x0::l).set 0 y=y::l:=rfl
@[simp] theorem lk1{α:Type}(x0 x1:α)(l:List α):(x0::x1::l)[1]?=some x1:=rfl
@[simp] theorem st1{α:Type}(x0 x1 y:α)(l:List α):(x0::x1::l).set 1 y=x0::y::l:=rfl
@[simp] theorem lk2{α:Type}(x0 x1 x2:α)(l:List α):(x0::x1::x2::l)[2]?=some x2:=rfl
@[simp] theorem st2{α:Type}(x0 x1 x2 y:α)(l:List α):(x0::x1::x2::l).set 2 y=x0::x1::y::l:=rfl
@[simp] theorem lk3{α:Type}(x0 x1 x2 x3:α)(l:List α):(x0::x1::x2::x3::l)[3]?=some x3:=rfl
@[simp] theorem st3{α:Type}(x0 x1 x2 x3 y:α)(l:List α):(x0::x1::x2::x3::l).set 3 y=x0::x1::x2::y::l:=rfl
@[simp] theorem lk4{α:Type}(x0 x1 x2 x3 x4:α)(l:List α):(x0::x1::x2::x3::x4::l)[4]?=some x4:=rfl
@[simp] theorem st4{α:Type}(x0 x1 x2 x3 x4 y:α)(l:List α):(x0::x1::x2::x3::x4::l).set 4 y=x0::x1::x2::x3::y::l:=rfl
@[simp] theorem lk5{α:Type}(x0 x1 x2 x3 x4 x5:α)(l:List α):(x0::x1::x2::x3::x4::x5::l)[5]?=some x5:=rfl
@[simp] theorem st5{α:Type}(x0 x1 x2 x3 x4 x5 y:α)(l:List α):(x0::x1::x2::x3::x4::x5::l).set 5 y=x0::x1::x2::x3::x4::y::l:=rfl
@[simp] theorem lk6{α:Type}(x0 x1 x2 x3 x4 x5 x6:α)(l:List α):(x0::x1::x2::x3::x4::x5::x6::l)[6]?=some x6:=rfl
@[simp] theorem st6{α:Type}(x0 x1 x2 x3 x4 x5 x6 y:α)(l:List α):(x0::x1::x2::x3::x4::x5::x6::l).set 6 y=x0::x1::x2::x3::x4::x5::y::l:=rfl
@[simp] theorem lk7{α:Type}(x0 x1 x2 x3 x4 x5 x6 x7:α)(l:List α):(x0::x1::x2::x3::x4::x5::x6::x7::l)[7]?=some x7:=rfl
@[simp] theorem st7{α:Type}(x0 x1 x2 x3 x4 x5 x6 x7 y:α)(l:List α):(x0::x1::x2::x3::x4::x5::x6::x7::l).set 7 y=x0::x1::x2::x3::x4::x5::x6::y::l:=rfl
@[simp] theorem lk8{α:Type}(x0 x1 x2 x3 x4 x5 x6 x7 x8:α)(l:List α):(x0::x1::x2::x3::x4::x5::x6::x7::x8::l)[8]?=some x8:=rfl
@[simp] theorem st8{α:Type}(x0 x1 x2 x3 x4 x5 x6 x7 x8 y:α)(l:List α):(x0::x1::x2::x3::x4::x5::x6::x7::x8::l).set 8 y=x0::x1::x2::x3::x4::x5::x6::x7::y::l:=rfl
@[simp] theorem lk9{α:Type}(x0 x1 x2 x3 x4 x5 x6 x7 x8 x9:α)(l:List α):(x0::x1::x2::x3::x4::x5::x6::x7::x8::x9::l)[9]?=some x9:=rfl
@[simp] theorem st9{α:Type}(x0 x1 x2 x3 x4 x5 x6 x7 x8 x9 y:α)(l:List α):(x0::x1::x2::x3::x4::x5::x6::x7::x8::x9::l).set 9 y=x0::x1::x2::x3::x4::x5::x6::x7::x8::y::l:=rfl
@[simp] theorem qGq{α:Type}(x0 x1 x2 x3 x4 x5 x6 x7 x8 x9 x10:α)(l:List α):(x0::x1::x2::x3::x4::x5::x6::x7::x8::x9::x10::l)[10]?=some x10:=rfl
@[simp] theorem qGe{α:Type}(x0 x1 x2 x3 x4 x5 x6 x7 x8 x9 x10 y:α)(l:List α):(x0::x1::x2::x3::x4::x5::x6::x7::x8::x9::x10::l).set 10 y=x0::x1::x2::x3::x4::x5::x6::x7::x8::x9::y::l:=rfl
@[simp] theorem qGv{α:Type}(x0 x1 x2 x3 x4 x5 x6 x7 x8 x9 x10 x11:α)(l:List α):(x0::x1::x2::x3::x4::x5::x6::x7::x8::x9::x10::x11::l)[11]?=some x11:=rfl
@[simp] theorem qGm{α:Type}(x0 x1 x2 x3 x4 x5 x6 x7 x8 x9 x10 x11 y:α)(l:List α):(x0::x1::x2::x3::x4::x5::x6::x7::x8::x9::x10::x11::l).set 11 y=x0::x1::x2::x3::x4::x5::x6::x7::x8::x9::x10::y::l:=rfl
@[simp] theorem qGt{α:Type}(x0 x1 x2 x3 x4 x5 x6 x7 x8 x9 x10 x11 x12:α)(l:List α):(x0::x1::x2::x3::x4::x5::x6::x7::x8::x9::x10::x11::x12::l)[12]?=some x12:=rfl
@[simp] theorem qGx{α:Type}(x0 x1 x2 x3 x4 x5 x6 x7 x8 x9 x10 x11 x12 y:α)(l:List α):(x0::x1::x2::x3::x4::x5::x6::x7::x8::x9::x10::x11::x12::l).set 12 y=x0::x1::x2::x3::x4::x5::x6::x7::x8::x9::x10::x11::y::l:=rfl
@[simp] theorem qGy{α:Type}(x0 x1 x2 x3 x4 x5 x6 x7 x8 x9 x10 x11 x12 x13:α)(l:List α):(x0::x1::x2::x3::x4::x5::x6::x7::x8::x9::x10::x11::x12::x13::l)[13]?=some x13:=rfl
@[simp] theorem qGs{α:Type}(x0 x1 x2 x3 x4 x5 x6 x7 x8 x9 x10 x11 x12 x13 y:α)(l:List α):(x0::x1::x2::x3::x4::x5::x6::x7::x8::x9::x10::x11::x12::x13::l).set 13 y=x0::x1::x2::x3::x4::x5::x6::x7::x8::x9::x10::x11::x12::y::l:=rfl
@[simp] theorem qGn{α:Type}(x0 x1 x2 x3 x4 x5 x6 x7 x8 x9 x10 x11 x12 x13 x14:α)(l:List α):(x0::x1::x2::x3::x4::x5::x6::x7::x8::x9::x10::x11::x12::x13::x14::l)[14]?=some x14:=rfl
@[simp] theorem qGh{α:Type}(x0 x1 x2 x3 x4 x5 x6 x7 x8 x9 x10 x11 x12 x13 x14 y:α)(l:List α):(x0::x1::x2::x3::x4::x5::x6::x7::x8::x9::x10::x11::x12::x13::x14::l).set 14 y=x0::x1::x2::x3::x4::x5::x6::x7::x8::x9::x10::x11::x12::x13::y::l:=rfl
@[simp] theorem qGw{α:Type}(x0 x1 x2 x3 x4 x5 x6 x7 x8 x9 x10 x11 x12 x13 x14 x15:α)(l:List α):(x0::x1::x2::x3::x4::x5::x6::x7::x8::x9::x10::x11::x12::x13::x14::x15::l)[15]?=some x15:=rfl
@[simp] theorem qGr{α:Type}(x0 x1 x2 x3 x4 x5 x6 x7 x8 x9 x10 x11 x12 x13 x14 x15 y:α)(l:List α):(x0::x1::x2::x3::x4::x5::x6::x7::x8::x9::x10::x11::x12::x13::x14::x15::l).set 15 y=x0::x1::x2::x3::x4::x5::x6::x7::x8::x9::x10::x11::x12::x13::x14::y::l:=rfl
theorem qi{gl:List T}{tb:List Fn}{Cs:List (List Nat)}{k f:Nat}{vs:List T}{M:Mem}{np ns:Nat}{b:Ss}(ht:tb[f]?=some ⟨np,ns,b⟩)(hl:vs.length=np/\np<=ns)(hk:1<=k):
  Pk gl tb Cs k f vs M=Js M.length (pxs gl (Pk gl tb Cs (k-1)) (Cs.getD f []) b (vs.map some++List.replicate (ns-np) none) M):=by
 obtain⟨k,rfl⟩:∃j,k=j+1:=⟨k-1,by omega⟩
 rw[Pk,ht];dsimp only;rw[if_pos hl];rfl
theorem qR{M M1:Mem}{t:TB}(h:M1.length=M.length):Js M.length (.ok (.rt t,M1))=.ok (t,M1):=by
 show finish M.length t M1=_;unfold finish;rw[if_pos h]
theorem L4{M M1:Mem}{σ:TS}(h:M1.length=M.length):Js M.length (.ok (.nx σ,M1))=.ok ((.v .non,true),M1):=by
 show finish M.length _ M1=_;unfold finish;rw[if_pos h]
noncomputable def N(n:Nat):T:=.v (.int (n:Int))
noncomputable def NL(L:List Nat):T:=.lst (L.map N)
theorem S9(n:Nat):qf 0 n=(List.range n).map N:=by
 unfold qf N;simp
theorem r6(L:List Nat):T.lfs (L.map N)=true:=by
 induction L with
 |nil=>rfl
 |cons x L ih=>rw[List.map_cons,qAB,ih];rfl
theorem qFu(n:Nat):(N n).lf=true:=by unfold N;rfl
theorem Jo:∀L:List Nat,qz (L.map N)=some (L.map λ(n:Nat)=>V.int (n:Int))
 | []=>rfl
 |x::L=>by
  show (qz (L.map N)).map _=_;rw[Jo L];rfl
theorem qEM{M:Mem}(n:Nat)(L:List Nat):zB M .inn (N n) (NL L)=some (decide (n∈L)):=by
 show ((qz (L.map N)).map λxs=>xs.any λz=>_L.eqV z (.int (n:Int)))=_;rw[Jo,Option.map_some,List.any_map];congr 1;rw[wj];simp only[ve,Function.comp,uH];constructor
 ·rintro⟨x,hx,e⟩;have:x=n:=by
   have e':((x:Int)==(n:Int))=true:=e;rw[beq_iff_eq]at e';omega
  rwa [<-this]
 ·intro h;refine⟨n,h,?_⟩;show ((n:Int)==(n:Int))=true;rw[uK]
theorem qA8{M:Mem}(n:Nat)(L:List Nat):zB M .notin (N n) (NL L)=some (!decide (n∈L)):=by
 have:=qEM (M:=M) n L;show (inT M (N n) (NL L)).map (!·)=_;rw[show inT M (N n) (NL L)=some (decide (n∈L)) from this];rfl
theorem G3{M:Mem}{d:Nat}:∀(L K:List Nat),L.length=K.length->zh (eqT M d) (L.map N) (K.map N)=some (List.zipWith (λ(a b:Nat)=>decide (a=b)) L K)
 | [],[],_=>rfl
 | [],_::_,h=>by simp at h
 |_::_,[],h=>by simp at h
 |a::L,b::K,h=>by
  have e:eqT M d (N a) (N b)=some (decide (a=b)):=by
   have:eqF (.int (a:Int)) (.int (b:Int))=some (decide (a=b)):=by
    show some ((a:Int)==(b:Int))=_;congr 1;rw[wj,beq_iff_eq,uH];omega
   cases d<;>(unfold eqT;exact this)
  rw[List.map_cons,List.map_cons,zh,e,G3 L K (by simpa using h)];rfl
theorem Q6:∀(L K:List Nat),L.length=K.length->((List.zipWith (λ(a b:Nat)=>decide (a=b)) L K).all id=decide (L=K))
 | [],[],_=>rfl
 | [],_::_,h=>by simp at h
 |_::_,[],h=>by simp at h
 |a::L,b::K,h=>by
  rw[List.zipWith_cons_cons,List.all_cons,Q6 L K (by simpa using h)];by_cases h1:a=b<;>by_cases h2:L=K<;>simp[h1,h2]
theorem qDm{M:Mem}{d:Nat}(L K:List Nat):eqT M (d+1) (NL L) (NL K)=some (decide (L=K)):=by
 unfold eqT;show (if (L.map N).length=(K.map N).length then (zh (eqT M d) (L.map N) (K.map N)).map (λbs=>bs.all id) else some false)=_;rw[wO,wO];by_cases h:L.length=K.length
 ·rw[if_pos h,G3 L K h,Option.map_some,Q6 L K h]
 ·rw[if_neg h];congr 1;symm;exact uF (λe=>h (by rw[e]))
theorem qAY{M:Mem}(L:List Nat):QC M .list [NL L]=some (NL L,true):=by
 show some (T.lst (L.map N),T.lfs (L.map N))=_;rw[r6];rfl
theorem qDI{M:Mem}{L K:List Nat}(h:L.length+K.length<=lim):qr M .add (NL L) (NL K)=some (NL (L++K),true):=by
 unfold NL;rw[J2 (by simpa using h)];show some (T.lst (L.map N++K.map N),T.lfs (L.map N++K.map N))=_;rw[<-vH,r6]
@[simp] theorem qCv{d:jq}{g:Tg}{b:TS->Mem->RSt}{σ:TS}{M:Mem}:zN d g b [] σ M=.ok (.nx σ,M):=rfl
@[simp] theorem jK{i:Nat}{b:TS->Mem->RSt}{x:T}{r:List T}{σ:TS}{M:Mem}:zN [] (.name i) b (x::r) σ M=(b (σ.set i (some x)) M).bind λp=>match p.1 with
   | .nx σ2=>zN [] (.name i) b r σ2 p.2
   | .ct σ2=>zN [] (.name i) b r σ2 p.2
   | .bk σ2=>.ok (.nx σ2,p.2)
   | .rt t=>.ok (.rt t,p.2):=rfl
theorem X0{c:TS->Mem->PR (Bool×Mem)}{e:TS->Mem->PR (TB×Mem)}{M:Mem}{σ:TS}(p:Nat->Bool)(f:Nat->T)(fr:Nat->Bool):∀(its:List Nat) (ys:List T) (b:Bool) (o:Option T),ys.length+its.length<=lim ->
  (∀x∈its,c (some (N x)::σ) M=.ok (p x,M))->(∀x∈its,p x=true->e (some (N x)::σ) M=.ok ((f x,fr x),M)) ->
  qU [] (.name 0) c e (its.map N) ys b (o::σ) M=.ok ((.lst (ys++(its.filter p).map f),b&&(its.filter p).all fr),M)
 | [],ys,b,o,hl,hc,he=>by simp[qU]
 |x::r,ys,b,o,hl,hc,he=>by
  rw[List.map_cons];unfold qU;rw[show zd (.name 0) (N x) (o::σ)=some (some (N x)::σ) from rfl];dsimp only;rw[hc x (wN ..)];rw[tD];dsimp only;cases hp:p x with
  |true=>
   rw[if_pos rfl,he x (wN ..) hp,tD];dsimp only;rw[if_pos ⟨by simp at hl;omega,rfl⟩];rw[X0 p f fr r (ys++[f x]) (b&&fr x) (some (N x)) (by simp at hl ⊢;omega) (λy hy=>hc y (wI _ hy)) (λy hy=>he y (wI _ hy))];rw[wo hp];simp[Bool.and_assoc]
  |false=>
   rw[if_neg (by decide),if_pos (show qY [] M=true from rfl)];rw[X0 p f fr r ys b (some (N x)) (by simp at hl ⊢;omega) (λy hy=>hc y (wI _ hy)) (λy hy=>he y (wI _ hy))];rw[vB (by rw[hp];decide)]
theorem zp{c:TS->Mem->PR (Bool×Mem)}{e:TS->Mem->PR (TB×Mem)}{M:Mem}{σ:TS}{o:Option T}{its:List Nat}(p:Nat->Bool)(g:Nat->Nat)(hl:its.length<=lim)
  (hc:∀x∈its,c (some (N x)::σ) M=.ok (p x,M)) (he:∀x∈its,p x=true->e (some (N x)::σ) M=.ok ((N (g x),true),M)):
  qU [] (.name 0) c e (its.map N) [] true (o::σ) M=.ok ((NL ((its.filter p).map g),true),M):=by
 rw[X0 p (λx=>N (g x)) (λ_=>true) its [] true o (by simpa using hl) hc he];unfold NL;simp
 all_goals rfl
@[simp] theorem zg{M:Mem}(a b:Nat):qr M .add (N a) (N b)=some (N (a+b),true):=by unfold N;simp[iT]
theorem v8(L:List Nat):T.lf (NL L)=false:=by unfold NL;simp
noncomputable def nE(n:Nat):E:=.cst (.int (n:Int))
@[simp] theorem qEr{gl:List T}{P:Nat->List T->Mem->PR (TB×Mem)}{σ:TS}{M:Mem}(n:Nat):pe gl P (nE n) σ M=.ok ((N n,true),M):=by unfold nE;rw[pe_int];rfl
section
variable{M:Mem}(a b:Nat) (xs:List T)
@[simp] theorem lfN:(N a).lf=true:=qFu a
@[simp] theorem qGN:(N a).isV=some (.int (a:Int)):=rfl
@[simp] theorem qGg:zj M (N a)=some "int":=rfl
@[simp] theorem qF5(L:List Nat):zj M (NL L)=some "list":=rfl
theorem qDX{a b:Nat}(h:b<=a):qr M .sub (N a) (N b)=some (N (a-b),true):=by
 unfold N;rw[qCy];unfold iT;rw[Int.ofNat_sub h]
theorem Za{a b:Nat}(h:a<18446744073709551616\/b<18446744073709551616):qr M .mul (N a) (N b)=some (N (a*b),true):=by
 unfold N;rw[qCr (by omega)];unfold iT;simp
theorem Zz{a b:Nat}(h:0<b/\b<1073741824):qr M .fdiv (N a) (N b)=some (N (a / b),true):=by
 unfold N;rw[qBo (by omega)];unfold iT;simp
theorem Zd{a b:Nat}(h:0<b):qr M .mod (N a) (N b)=some (N (a % b),true):=by
 unfold N;rw[qDH (by omega)];unfold iT;simp
theorem qAP{a b:Nat}(h:b<=1000/\a<1000000):qr M .pow (N a) (N b)=some (N (a ^ b),true):=by
 unfold N;rw[qDE (by omega)];unfold iT;simp
@[simp] theorem Qf:zB M .lt (N a) (N b)=some (decide (a<b)):=by unfold N;rw[qEz];simp
@[simp] theorem ZC:zB M .le (N a) (N b)=some (decide (a<=b)):=by unfold N;rw[qEK];simp
@[simp] theorem QT:zB M .gt (N a) (N b)=some (decide (b<a)):=by unfold N;rw[qEG];simp
@[simp] theorem ZK:zB M .ge (N a) (N b)=some (decide (b<=a)):=by unfold N;rw[qEq];simp
@[simp] theorem QH:zB M .eq (N a) (N b)=some (decide (a=b)):=by unfold N;rw[qEo];congr 1;rw[wj,uH,uH];omega
@[simp] theorem Qr:zB M .ne (N a) (N b)=some (!decide (a=b)):=by
 show ((eqT M 4 (N a) (N b)).map (!·))=_;rw[show eqT M 4 (N a) (N b)=some (decide (a=b)) from QH (M:=M) a b];rfl
@[simp] theorem ZW:Jd M (.lst xs) (N a)=(xs[a]?).map λt=>(t,t.lf):=by
 show ((_L.ixN xs.length (a:Int)).bind λj=>(xs[j]?).map λt=>(t,t.lf))=_;unfold _L.ixN;rw[if_pos (by omega)];split
 ·simp
 ·rw[List.getElem?_eq_none (by omega)];rfl
@[simp] theorem qDa:Jd M (.tup xs) (N a)=(xs[a]?).map λt=>(t,t.lf):=by
 show ((_L.ixN xs.length (a:Int)).bind λj=>(xs[j]?).map λt=>(t,t.lf))=_;unfold _L.ixN;rw[if_pos (by omega)];split
 ·simp
 ·rw[List.getElem?_eq_none (by omega)];rfl
@[simp] theorem qFi:QC M .len [.lst xs]=some (N xs.length,true):=rfl
@[simp] theorem qFA:QC M .len [.tup xs]=some (N xs.length,true):=rfl
@[simp] theorem qFQ:QC M .len [.fz xs]=some (N xs.length,true):=rfl
@[simp] theorem qFN:QC M .max [N a,N b]=some (N (max a b),true):=by
 unfold N;rw[qAg];unfold iT;congr 4;split<;>omega
@[simp] theorem qFq:QC M .min [N a,N b]=some (N (min a b),true):=by
 unfold N;rw[qC3];unfold iT;congr 4;split<;>omega
@[simp] theorem qGG:QC M .int [N a]=some (N a,true):=rfl
@[simp] theorem qFX(t:Bool):QC M .int [.v (.bl t)]=some (N t.toNat,true):=by cases t<;>rfl
@[simp] theorem qFZ:QC M .bits [N a]=some (N (PySem.Builtin.Int.intBits (a:Int)),true):=rfl
theorem qA0:qr M .band (N a) (N b)=some (N (a&&& b),true):=by
 unfold N;rw[qA9];unfold iT;rfl
end
theorem je{n:Nat}(hn:n<=1000000):qB9 (N n)=some ((List.range n).map N):=by
 show (if -1000000<=(n:Int)/\(n:Int)<=1000000 then some (qf 0 (n:Int).toNat) else none)=_;rw[if_pos (by omega),vC,S9]
theorem qA3{n:Nat}(hn:n<=100000):Z6 (N n)=some ((List.range n).map N):=by
 show (if -1000000<=(n:Int)/\(n:Int)<=100000 then some (qf 0 (n:Int).toNat) else none)=_;rw[if_pos (by omega),vC,S9]
theorem qAv{M:Mem}{n:Nat}{xs:List T}{x:T}(h:M[n]?=some xs)(hl:xs.length<lim):i7 M n x=some (M.set n (xs++[x])):=by
 unfold i7;rw[h];show (if xs.length<lim then _ else _)=_;rw[if_pos hl]
@[simp] theorem qCc(n a:Nat):thaw n (N a)=(N a,[]):=by unfold N;simp[thaw]
@[simp] theorem qFK{M:Mem}(L:List Nat):JU M (NL L)=some (L.map N,[]):=rfl
@[simp] theorem qFl{M:Mem}(x f:Bool):pB (PR.ok ((T.v (V.bl x),f),M))=.ok (x,M):=Eq.trans rfl rfl
theorem QG{α:Type}:∀l:List α,l.filter (λ_=>true)=l
 | []=>rfl
 |x::l=>by rw[wo rfl,QG l]
theorem X5{gl:List T}{P:Nat->List T->Mem->PR (TB×Mem)}{e:TS->Mem->PR (TB×Mem)}{M:Mem}{σ:TS}{o:Option T}{its:List Nat}(g:Nat->Nat)(hl:its.length<=lim)
  (he:∀x∈its,e (some (N x)::σ) M=.ok ((N (g x),true),M)):qU [] (.name 0) (pec gl P .nil) e (its.map N) [] true (o::σ) M=.ok ((NL (its.map g),true),M):=
 (zp (λ_=>true) g hl (λx _=>by simp) (λx hx _=>he x hx)).trans (by rw[QG])
@[simp] theorem qFw{M:Mem}{n j:Nat}{x:T}:qDP M (.cell n) (N j) x=(M[n]?).bind λxs=>if j<xs.length then some (M.set n (xs.set j x)) else none:=by
 show ((M[n]?).bind λxs=>(_L.ixN xs.length (j:Int)).map λj=>M.set n (xs.set j x))=_;congr 1
 funext xs
 unfold _L.ixN;rw[if_pos (by omega)];by_cases h:j<xs.length
 ·rw[if_pos (by omega),if_pos h];simp
 ·rw[if_neg (by omega),if_neg h];rfl
@[simp] theorem qE2{M:Mem}{n a:Nat}:Jd M (.cell n) (N a)=(M[n]?).bind λxs=>(xs[a]?).map λt=>(t,t.lf):=by
 show ((M[n]?).bind λxs=>(_L.ixN xs.length (a:Int)).bind λj=>(xs[j]?).map λt=>(t,t.lf))=_;congr 1
 funext xs
 exact ZW (M:=M) a xs
@[simp] theorem qFE(a:Nat):qD8 (N a)=some (iT (-(a:Int))):=rfl
@[simp] theorem qFn(a:Int):qD8 (.v (.int a))=some (iT (-a)):=rfl
@[simp] theorem qF4(a:Nat):qW [N a]=some [(a:Int)]:=rfl
@[simp] theorem qFx:qW []=some []:=rfl
@[simp] theorem qFv{M:Mem}(xs:List T):T.its M (.lst xs)=some xs:=rfl
@[simp] theorem qGI{M:Mem}(xs:List T):T.its M (.fz xs)=some xs:=rfl
@[simp] theorem qGL{M:Mem}(xs:List T):T.its M (.tup xs)=some xs:=rfl
@[simp] theorem qGE{M:Mem}(L:List Nat):T.its M (NL L)=some (L.map N):=rfl
@[simp] theorem qFj(ys xs:List T)(lo hi:Option Int):p9 (.lst ys) xs lo hi=some (lT (Q5 xs lo hi)):=rfl
@[simp] theorem qFL(ys xs:List T)(lo hi:Option Int):p9 (.fz ys) xs lo hi=some (lT (Q5 xs lo hi)):=rfl
@[simp] theorem qFV(L:List Nat)(xs:List T)(lo hi:Option Int):p9 (NL L) xs lo hi=some (lT (Q5 xs lo hi)):=rfl
@[simp] theorem qFm(n:Nat)(xs:List T)(lo hi:Option Int):p9 (.cell n) xs lo hi=some (lT (Q5 xs lo hi)):=rfl
@[simp] theorem qGS{M:Mem}(xs:List T):T.lis M (.lst xs)=some xs:=rfl
@[simp] theorem qGW{M:Mem}(xs:List T):T.lis M (.fz xs)=some xs:=rfl
@[simp] theorem qGV{M:Mem}(L:List Nat):T.lis M (NL L)=some (L.map N):=rfl
theorem qBE(xs:List T)(k:Nat):Q5 xs (some (k:Int)) (some ((k+1:Nat):Int))=(xs.drop k).take 1:=by
 unfold Q5;rw[_H.sIx_nat,_H.sIx_nat];by_cases h:k<xs.length
 ·rw[Nat.min_eq_left (by omega),Nat.min_eq_left (by omega),show k+1-k=1 by omega]
 ·rw[Nat.min_eq_right (by omega),Nat.min_eq_right (by omega),List.drop_eq_nil_of_le (wF _),List.drop_eq_nil_of_le (by omega)];simp
theorem C4{c:TS->Mem->PR (Bool×Mem)}{e:TS->Mem->PR (TB×Mem)}{σ:TS}{I:Mem->Prop}{R:Nat->Bool->Prop}:∀(its ys:List Nat) (b:Bool) (o:Option T) (M:Mem),its.Nodup->ys.length+its.length<=lim->I M ->
  (∀x∈its,∀M,I M->∃t M',c (some (N x)::σ) M=.ok (t,M')/\I M'/\R x t)->(∀x∈its,∀M,I M->e (some (N x)::σ) M=.ok ((N x,true),M)) ->
  ∃q M',qU [] (.name 0) c e (its.map N) (ys.map N) b (o::σ) M=.ok ((NL (ys++its.filter q),b),M')/\I M'/\∀x∈its,R x (q x)
 | [],ys,b,o,M,nd,hl,hI,hc,he=>⟨λ_=>true,M,by simp[qU,NL],hI,λx hx=>by simp at hx⟩
 |x::r,ys,b,o,M,nd,hl,hI,hc,he=>by
  have ndr:=(vR.mp nd).2;have hx:=(vR.mp nd).1;obtain⟨t,M1,e1,i1,r1⟩:=hc x (wN ..) M hI;rw[List.map_cons];unfold qU;rw[show zd (.name 0) (N x) (o::σ)=some (some (N x)::σ) from rfl];dsimp only;rw[e1,tD];dsimp only;have key:∀(q:Nat->Bool),(∀y∈r,R y (q y))->(r.filter (λy=>if y=x then t else q y)=r.filter q)/\∀y∈x::r,R y (if y=x then t else q y):=λq hq=>by
   constructor
   ·apply List.filter_congr;intro y hy;rw[if_neg (by rintro rfl;exact hx hy)]
   ·intro y hy;rcases wP.mp hy with h1|h1
    ·rw[if_pos h1,h1];exact r1
    ·rw[if_neg (by rintro rfl;exact hx h1)];exact hq y h1
  cases t with
  |true=>
   rw[if_pos rfl,he x (wN ..) M1 i1,tD];dsimp only;rw[if_pos ⟨by simp at hl ⊢;omega,rfl⟩];obtain⟨q,M2,e2,i2,r2⟩:=C4 (I:=I) (R:=R) r (ys++[x]) b (some (N x)) M1 ndr (by simp at hl ⊢;omega) i1 (λy hy=>hc y (wI _ hy)) (λy hy=>he y (wI _ hy));obtain⟨k1,k2⟩:=key q r2;refine⟨λy=>if y=x then true else q y,M2,?_,i2,k2⟩;rw[show ys.map N++[N x]=(ys++[x]).map N by simp,vT,e2,wo (by simp),k1];simp
  |false=>
   rw[if_neg (by decide),if_pos (show qY [] M1=true from rfl)];obtain⟨q,M2,e2,i2,r2⟩:=C4 (I:=I) (R:=R) r ys b (some (N x)) M1 ndr (by simp at hl ⊢;omega) i1 (λy hy=>hc y (wI _ hy)) (λy hy=>he y (wI _ hy));obtain⟨k1,k2⟩:=key q r2;refine⟨λy=>if y=x then false else q y,M2,?_,i2,k2⟩;rw[e2,vB (by simp),k1]
@[simp] theorem qD9(i j:Nat)(a b:T)(σ:TS):zd (.tup [i,j]) (.tup [a,b]) σ=some ((σ.set i (some a)).set j (some b)):=rfl
@[simp] theorem qB6(σ:TS):zC [] σ=[]:=rfl
@[simp] theorem qBq(r:List (Option Nat))(σ:TS):zC (none::r) σ=none::zC r σ:=rfl
@[simp] theorem qBs(j:Nat)(r:List (Option Nat))(σ:TS):zC (some j::r) σ=(σ[j]?).join::zC r σ:=rfl
theorem c6(x:V)(f:Bool)(M1:Mem):∃b M2,Js ([]:Mem).length (.ok (.rt (.v x,f),M1))=.ok ((.v x,b),M2):=by
 show ∃b M2,finish 0 (.v x,f) M1=_;unfold finish;by_cases h:M1.length=0
 ·rw[if_pos h];exact⟨f,M1,rfl⟩
 ·rw[if_neg h,if_pos (by simp)];rw[show qM M1 0 6 (T.v x)=some (.v x) by unfold qM;rw[if_pos (by unfold T.und;rfl)]];exact⟨_,_,rfl⟩
mutual
theorem m9:∀t:T,T.beq t t=true
 | .v x=>by unfold T.beq;simp
 | .cell x=>by unfold T.beq;simp
 | .ob x=>by unfold T.beq;simp
 | .dt ks xs=>by unfold T.beq;rw[zL xs];simp
 | .fz xs=>by unfold T.beq;exact zL xs
 | .lst xs=>by unfold T.beq;exact zL xs
 | .tup xs=>by unfold T.beq;exact zL xs
theorem zL:∀ts:List T,T.beqs ts ts=true
 | []=>rfl
 |t::ts=>by unfold T.beqs;rw[m9 t,zL ts];rfl
end
mutual
theorem w9{a b:Nat}(h:a<=b):∀t:T,t.und a=true->t.und b=true
 | .v x,_=>rfl
 | .cell k,e=>by unfold T.und at e ⊢;simp at e ⊢;omega
 | .ob x,_=>rfl
 | .dt _ xs,e=>by unfold T.und at e ⊢;exact qy h xs e
 | .fz xs,e=>by unfold T.und at e ⊢;exact qy h xs e
 | .lst xs,e=>by unfold T.und at e ⊢;exact qy h xs e
 | .tup xs,e=>by unfold T.und at e ⊢;exact qy h xs e
theorem qy{a b:Nat}(h:a<=b):∀ts:List T,T.unds a ts=true->T.unds b ts=true
 | [],_=>rfl
 |t::ts,e=>by unfold T.unds at e ⊢;rw[wE]at e;rw[w9 h t e.1,qy h ts e.2];rfl
end
def FlatM(M:Mem):Prop:=∀c∈M,T.unds 0 c=true
theorem FlatM.all{M:Mem}(h:FlatM M)(n:Nat):M.all (T.unds n)=true:=by
 rw[vA];exact λc hc=>qy (vM _) c (h c hc)
theorem FlatM.app{A B:Mem}(h:FlatM A)(k:FlatM B):FlatM (A++B):=λc hc=>by
 rcases wL.mp hc with z|z
 ·exact h c z
 ·exact k c z
theorem l4(n a:Nat):(N a).und n=true:=by unfold N T.und;rfl
theorem g8(n:Nat):∀L:List Nat,T.unds n (L.map N)=true
 | []=>rfl
 |x::L=>by rw[List.map_cons];unfold T.unds;rw[l4,g8 n L];rfl
theorem ZV{M:Mem}{n0 d:Nat}:∀L:List Nat,(L.map N).mapM (qM M n0 d)=some (L.map N)
 | []=>rfl
 |x::L=>by
  rw[List.map_cons,List.mapM_cons,ZV L];have:qM M n0 d (N x)=some (N x):=by cases d<;>(unfold qM;rw[if_pos (l4 _ _)])
  rw[this];rfl
theorem Q7{M:Mem}{n0 d:Nat}:∀L:List Nat,(L.map N).mapM (jM M n0 d)=some (L.map λ_=>[])
 | []=>rfl
 |x::L=>by
  rw[List.map_cons,List.mapM_cons,Q7 L];have:jM M n0 d (N x)=some []:=by cases d<;>(unfold jM;rw[if_pos (qFu _)])
  rw[this];rfl
theorem X7(L:List Nat):(L.map λ_=>([]:List Nat)).flatten=[]:=by
 induction L with
 |nil=>rfl
 |cons x L ih=>rw[List.map_cons,List.flatten_cons,ih];rfl
theorem C6{d:jq}{c:TS->Mem->PR (Bool×Mem)}{e:TS->Mem->PR (TB×Mem)}{M:Mem}{σ:TS}(p:Nat->Bool)(f:Nat->T)(fr:Nat->Bool):∀(its:List Nat) (ys:List T) (b:Bool) (o:Option T),qY d M=true->ys.length+its.length<=lim ->
  (∀x∈its,c (some (N x)::σ) M=.ok (p x,M))->(∀x∈its,p x=true->e (some (N x)::σ) M=.ok ((f x,fr x),M)) ->
  qU d (.name 0) c e (its.map N) ys b (o::σ) M=.ok ((.lst (ys++(its.filter p).map f),b&&(its.filter p).all fr),M)
 | [],ys,b,o,hd,hl,hc,he=>by simp[qU]
 |x::r,ys,b,o,hd,hl,hc,he=>by
  rw[List.map_cons];unfold qU;rw[show zd (.name 0) (N x) (o::σ)=some (some (N x)::σ) from rfl];dsimp only;rw[hc x (wN ..)];rw[tD];dsimp only;cases hp:p x with
  |true=>
   rw[if_pos rfl,he x (wN ..) hp,tD];dsimp only;rw[if_pos ⟨by simp at hl;omega,hd⟩];rw[C6 p f fr r (ys++[f x]) (b&&fr x) (some (N x)) hd (by simp at hl ⊢;omega) (λy hy=>hc y (wI _ hy)) (λy hy=>he y (wI _ hy))];rw[wo hp];simp[Bool.and_assoc]
  |false=>
   rw[if_neg (by decide),if_pos hd];rw[C6 p f fr r ys b (some (N x)) hd (by simp at hl ⊢;omega) (λy hy=>hc y (wI _ hy)) (λy hy=>he y (wI _ hy))];rw[vB (by rw[hp];decide)]
theorem l5{d:jq}{c:TS->Mem->PR (Bool×Mem)}{e:TS->Mem->PR (TB×Mem)}{M:Mem}{σ:TS}{o:Option T}{its:List Nat}(p:Nat->Bool)(g:Nat->Nat)(hd:qY d M=true)(hl:its.length<=lim)
  (hc:∀x∈its,c (some (N x)::σ) M=.ok (p x,M)) (he:∀x∈its,p x=true->e (some (N x)::σ) M=.ok ((N (g x),true),M)):
  qU d (.name 0) c e (its.map N) [] true (o::σ) M=.ok ((NL ((its.filter p).map g),true),M):=by
 rw[C6 p (λx=>N (g x)) (λ_=>true) its [] true o hd (by simpa using hl) hc he];unfold NL;simp
 all_goals rfl
theorem f6(n:Nat):∀L:List Nat,jy n (L.map N)=(L.map N,[])
 | []=>by simp[jy]
 |x::L=>by
  rw[List.map_cons,jy,qCc];dsimp only;rw[List.length_nil,Nat.add_zero,f6 n L];rfl
@[simp] theorem X9(n:Nat)(L:List Nat):thaw n (NL L)=(.cell n,[L.map N]):=by
 unfold NL;rw[thaw,f6];rfl
theorem qAn{M:Mem}{n:Nat}{ts:List T}(h:M[n]?=some ts):qY [(n,ts)] M=true:=by
 unfold qY;simp[h,zL]
theorem K6{M:Mem}{n:Nat}{ts:List T}(h:M[n]?=some ts):JU M (.cell n)=some (ts,[(n,ts)]):=by
 unfold JU;dsimp only;rw[h];rfl
theorem qFp{M:Mem}{n:Nat}{ts:List T}(h:M[n]?=some ts):zj M (.cell n)=some "list":=by
 unfold zj;dsimp only;rw[h];rfl
structure IsL(M:Mem)(t:T)(L:List Nat):Prop where
 its:t.its M=some (L.map N)
 lis:t.lis M=some (L.map N)
 ty:zj M t=some "list"
 src:∃d,JU M t=some (L.map N,d)/\l7 M t=some (L.map N,d)/\qY d M=true
 nv:t.isV=none
theorem IsL.nl(M:Mem)(L:List Nat):IsL M (NL L) L:=⟨rfl,rfl,rfl,⟨[],rfl,rfl,rfl⟩,rfl⟩
theorem IsL.cell{M:Mem}{n:Nat}{L:List Nat}(h:M[n]?=some (L.map N)):IsL M (.cell n) L:=⟨h,h,qFp h,⟨_,K6 h,K6 h,qAn h⟩,rfl⟩
section
variable{M:Mem}{t u:T}{L K:List Nat}
theorem IsL.len(h:IsL M t L):QC M .len [t]=some (N L.length,true):=by
 show (t.its M).map _=_;rw[h.its,Option.map_some,wO];rfl
theorem IsL.list(h:IsL M t L):QC M .list [t]=some (NL L,true):=by
 show (t.its M).map lT=_;rw[h.its,Option.map_some];show some (T.lst (L.map N),T.lfs (L.map N))=_;rw[r6];rfl
theorem qAI:∀L:List Nat,qW (L.map N)=some (L.map λ(n:Nat)=>(n:Int))
 | []=>rfl
 |x::L=>by
  show (qW (L.map N)).map _=_;rw[qAI L];rfl
theorem qAr:∀L:List Nat,ja (L.map N)=some (L.map λ(n:Nat)=>(n:Int))
 | []=>rfl
 |x::L=>by
  show (ja (L.map N)).map _=_;rw[qAr L];rfl
theorem L9:∀L:List Nat,(L.map λ(n:Nat)=>(n:Int)).sum=((L.sum:Nat):Int)
 | []=>rfl
 |x::L=>by rw[List.map_cons,List.sum_cons,L9 L,List.sum_cons];simp
theorem IsL.sum(h:IsL M t L):QC M .sum [t]=some (N L.sum,true):=by
 show (t.lis M).bind _=_;rw[h.lis,Option.bind_some,qAr,Option.map_some,L9];rfl
theorem IsL.idx(h:IsL M t L){i:Nat}{x:Nat}(e:L[i]?=some x):Jd M t (N i)=some (N x,true):=by
 show ((t.its M).bind λxs=>(_L.ixN xs.length (i:Int)).bind λj=>(xs[j]?).map λt=>(t,t.lf))=_;rw[h.its,Option.bind_some];have:=ZW (M:=M) i (L.map N);rw[show Jd M (.lst (L.map N)) (N i)=((_L.ixN (L.map N).length (i:Int)).bind λj=>((L.map N)[j]?).map λt=>(t,t.lf)) from rfl]at this;rw[this,wl,e];simp
theorem IsL.eq(h:IsL M t L)(k:IsL M u K):eqT M 4 t u=some (decide (L=K)):=by
 have:=qDm (M:=M) (d:=3) L K;unfold eqT at this ⊢;rw[h.nv,k.nv,h.lis,k.lis];exact this
theorem IsL.ceq(h:IsL M t L)(k:IsL M u K):zB M .eq t u=some (decide (L=K)):=h.eq k
theorem IsL.cne(h:IsL M t L)(k:IsL M u K):zB M .ne t u=some (!decide (L=K)):=by
 show (eqT M 4 t u).map (!·)=_;rw[h.eq k];rfl
end
theorem V9{M:Mem}(h:FlatM M)(A:List Nat)(f:Bool):Js M.length (.ok (.rt (.cell M.length,f),M++[A.map N]))=.ok ((NL A,true),M):=by
 show finish M.length _ _=_;unfold finish;rw[if_neg (by simp),if_pos (by rw[List.take_left'];exact h.all _;rfl)];have g0:(M++[A.map N])[M.length]?=some (A.map N):=by simp
 have r:qM (M++[A.map N]) M.length 6 (.cell M.length)=some (NL A):=by
  unfold qM;rw[if_neg (by unfold T.und;simp)];dsimp only;rw[g0,Option.bind_some,ZV];rfl
 have i:frR (M++[A.map N]) M.length (.cell M.length)=true:=by
  unfold frR;rw[show jM (M++[A.map N]) M.length 6 (.cell M.length)=some [M.length] by
   unfold jM;rw[if_neg (by rw[qBD];decide)];dsimp only;rw[if_pos (wF _),g0,Option.bind_some,Q7,Option.map_some,X7];rfl]
  simp
 rw[r,PR.ofO_some,tD,i,uA];rw[show (M++[A.map N]).take M.length=M from by rw[List.take_left'];rfl]
theorem getD_some{L:List Nat}{i:Nat}(h:i<L.length):L[i]?=some (L.getD i 0):=by
 rw[wJ,wD h];rfl
def IsS(M:Mem)(t:T)(ts:List T):Prop:=t=.lst ts\/∃m,t=.cell m/\M[m]?=some ts
section
variable{M C:Mem}{t:T}{ts:List T}
theorem IsS.app(h:IsS M t ts):IsS (M++C) t ts:=by
 rcases h with h|⟨m,h,e⟩
 ·exact .inl h
 ·exact .inr ⟨m,h,by rw[wC (wB.mp e).1];exact e⟩
theorem IsS.its(h:IsS M t ts):t.its M=some ts:=by rcases h with rfl|⟨m,rfl,e⟩;rfl;exact e
theorem IsS.lis(h:IsS M t ts):t.lis M=some ts:=by rcases h with rfl|⟨m,rfl,e⟩;rfl;exact e
theorem IsS.ty(h:IsS M t ts):zj M t=some "list":=by rcases h with rfl|⟨m,rfl,e⟩;rfl;exact qFp e
theorem IsS.nv(h:IsS M t ts):t.isV=none:=by rcases h with rfl|⟨m,rfl,e⟩<;>rfl
theorem IsS.lf(h:IsS M t ts):t.lf=false:=by rcases h with rfl|⟨m,rfl,e⟩<;>simp
theorem IsS.src(h:IsS M t ts):∃d,JU M t=some (ts,d)/\l7 M t=some (ts,d)/\∀C,qY d (M++C)=true:=by
 rcases h with rfl|⟨m,rfl,e⟩
 ·exact⟨[],rfl,rfl,λ_=>rfl⟩
 ·exact⟨_,K6 e,K6 e,λC=>qAn (by rw[wC (wB.mp e).1];exact e)⟩
theorem IsS.len(h:IsS M t ts):QC M .len [t]=some (N ts.length,true):=by
 show (t.its M).map _=_;rw[h.its,Option.map_some];rfl
theorem IsS.idx(h:IsS M t ts)(i:Nat):Jd M t (N i)=(ts[i]?).map λt=>(t,t.lf):=by
 have a:Jd M t (N i)=Jd M (.lst ts) (N i):=by
  show (t.its M).bind _=_;rw[h.its];rfl
 rw[a,ZW]
theorem IsS.list(h:IsS M t ts):QC M .list [t]=some (lT ts):=by
 show (t.its M).map lT=_;rw[h.its];rfl
theorem IsS.eqT{u:T}{us:List T}{d:Nat}{bs:List Bool}(h:IsS M t ts)(k:IsS M u us)(hl:ts.length=us.length)(e:zh (eqT M d) ts us=some bs):_P.eqT M (d+1) t u=some (bs.all id):=by
 unfold _P.eqT;rw[h.nv,k.nv,h.lis,k.lis];dsimp only;rw[if_pos hl,e];rfl
end
def WfM(M:Mem):Prop:=M.all (T.unds M.length)=true
theorem WfM.app{M C:Mem}(h:WfM M)(hC:∀c∈C,T.unds (M++C).length c=true):WfM (M++C):=by
 unfold WfM at *;rw[vA]at h ⊢;intro c hc;rcases wL.mp hc with z|z
 ·exact qy (by simp) c (h c z)
 ·exact hC c z
theorem WfM.one{M:Mem}(h:WfM M){ts:List T}(l:T.lfs ts=true):WfM (M++[ts]):=h.app λc hc=>by rw[wY.mp hc];exact B8 _ _ l
section
variable{gl:List T}{P:Nat->List T->Mem->PR (TB×Mem)}{M:Mem}{t:T}{l:TS}
@[simp high] theorem jr:pe gl P (.var 0) (some t::l) M=.ok ((t,t.lf),M):=Eq.trans rfl rfl
@[simp high] theorem Qm{x0:Option T}:pe gl P (.var 1) (x0::some t::l) M=.ok ((t,t.lf),M):=Eq.trans rfl rfl
@[simp high] theorem ZT{x0 x1:Option T}:pe gl P (.var 2) (x0::x1::some t::l) M=.ok ((t,t.lf),M):=Eq.trans rfl rfl
@[simp high] theorem B0{x0 x1 x2:Option T}:pe gl P (.var 3) (x0::x1::x2::some t::l) M=.ok ((t,t.lf),M):=Eq.trans rfl rfl
@[simp high] theorem P0{x0 x1 x2 x3:Option T}:pe gl P (.var 4) (x0::x1::x2::x3::some t::l) M=.ok ((t,t.lf),M):=Eq.trans rfl rfl
@[simp high] theorem P5{x0 x1 x2 x3 x4:Option T}:pe gl P (.var 5) (x0::x1::x2::x3::x4::some t::l) M=.ok ((t,t.lf),M):=Eq.trans rfl rfl
@[simp high] theorem qDh{x0 x1 x2 x3 x4 x5:Option T}:pe gl P (.var 6) (x0::x1::x2::x3::x4::x5::some t::l) M=.ok ((t,t.lf),M):=Eq.trans rfl rfl
@[simp high] theorem qCU{x0 x1 x2 x3 x4 x5 x6:Option T}:pe gl P (.var 7) (x0::x1::x2::x3::x4::x5::x6::some t::l) M=.ok ((t,t.lf),M):=Eq.trans rfl rfl
@[simp high] theorem qDD{x0 x1 x2 x3 x4 x5 x6 x7:Option T}:pe gl P (.var 8) (x0::x1::x2::x3::x4::x5::x6::x7::some t::l) M=.ok ((t,t.lf),M):=Eq.trans rfl rfl
@[simp high] theorem qGB{x0 x1 x2 x3 x4 x5 x6 x7 x8:Option T}:pe gl P (.var 9) (x0::x1::x2::x3::x4::x5::x6::x7::x8::some t::l) M=.ok ((t,t.lf),M):=Eq.trans rfl rfl
@[simp high] theorem qFg{x0 x1 x2 x3 x4 x5 x6 x7 x8 x9:Option T}:pe gl P (.var 10) (x0::x1::x2::x3::x4::x5::x6::x7::x8::x9::some t::l) M=.ok ((t,t.lf),M):=Eq.trans rfl rfl
@[simp high] theorem qFs{x0 x1 x2 x3 x4 x5 x6 x7 x8 x9 x10:Option T}:pe gl P (.var 11) (x0::x1::x2::x3::x4::x5::x6::x7::x8::x9::x10::some t::l) M=.ok ((t,t.lf),M):=Eq.trans rfl rfl
@[simp high] theorem qFC{x0 x1 x2 x3 x4 x5 x6 x7 x8 x9 x10 x11:Option T}:pe gl P (.var 12) (x0::x1::x2::x3::x4::x5::x6::x7::x8::x9::x10::x11::some t::l) M=.ok ((t,t.lf),M):=Eq.trans rfl rfl
@[simp high] theorem qFP{x0 x1 x2 x3 x4 x5 x6 x7 x8 x9 x10 x11 x12:Option T}:pe gl P (.var 13) (x0::x1::x2::x3::x4::x5::x6::x7::x8::x9::x10::x11::x12::some t::l) M=.ok ((t,t.lf),M):=Eq.trans rfl rfl
@[simp high] theorem jB{y z:Option T}:(y::l:TS).set 0 z=z::l:=Eq.trans rfl rfl
@[simp high] theorem jC{x0 y z:Option T}:(x0::y::l:TS).set 1 z=x0::z::l:=Eq.trans rfl rfl
@[simp high] theorem jQ{x0 x1 y z:Option T}:(x0::x1::y::l:TS).set 2 z=x0::x1::z::l:=Eq.trans rfl rfl
@[simp high] theorem QM{x0 x1 x2 y z:Option T}:(x0::x1::x2::y::l:TS).set 3 z=x0::x1::x2::z::l:=Eq.trans rfl rfl
@[simp high] theorem Zc{x0 x1 x2 x3 y z:Option T}:(x0::x1::x2::x3::y::l:TS).set 4 z=x0::x1::x2::x3::z::l:=Eq.trans rfl rfl
@[simp high] theorem Zm{x0 x1 x2 x3 x4 y z:Option T}:(x0::x1::x2::x3::x4::y::l:TS).set 5 z=x0::x1::x2::x3::x4::z::l:=Eq.trans rfl rfl
@[simp high] theorem qAp{x0 x1 x2 x3 x4 x5 y z:Option T}:(x0::x1::x2::x3::x4::x5::y::l:TS).set 6 z=x0::x1::x2::x3::x4::x5::z::l:=Eq.trans rfl rfl
@[simp high] theorem qAh{x0 x1 x2 x3 x4 x5 x6 y z:Option T}:(x0::x1::x2::x3::x4::x5::x6::y::l:TS).set 7 z=x0::x1::x2::x3::x4::x5::x6::z::l:=Eq.trans rfl rfl
@[simp high] theorem qAT{x0 x1 x2 x3 x4 x5 x6 x7 y z:Option T}:(x0::x1::x2::x3::x4::x5::x6::x7::y::l:TS).set 8 z=x0::x1::x2::x3::x4::x5::x6::x7::z::l:=Eq.trans rfl rfl
@[simp high] theorem qFG{x0 x1 x2 x3 x4 x5 x6 x7 x8 y z:Option T}:(x0::x1::x2::x3::x4::x5::x6::x7::x8::y::l:TS).set 9 z=x0::x1::x2::x3::x4::x5::x6::x7::x8::z::l:=Eq.trans rfl rfl
@[simp high] theorem qEm{x0 x1 x2 x3 x4 x5 x6 x7 x8 x9 y z:Option T}:(x0::x1::x2::x3::x4::x5::x6::x7::x8::x9::y::l:TS).set 10 z=x0::x1::x2::x3::x4::x5::x6::x7::x8::x9::z::l:=Eq.trans rfl rfl
@[simp high] theorem qEN{x0 x1 x2 x3 x4 x5 x6 x7 x8 x9 x10 y z:Option T}:(x0::x1::x2::x3::x4::x5::x6::x7::x8::x9::x10::y::l:TS).set 11 z=x0::x1::x2::x3::x4::x5::x6::x7::x8::x9::x10::z::l:=Eq.trans rfl rfl
@[simp high] theorem qEs{x0 x1 x2 x3 x4 x5 x6 x7 x8 x9 x10 x11 y z:Option T}:(x0::x1::x2::x3::x4::x5::x6::x7::x8::x9::x10::x11::y::l:TS).set 12 z=x0::x1::x2::x3::x4::x5::x6::x7::x8::x9::x10::x11::z::l:=Eq.trans rfl rfl
@[simp high] theorem qEe{x0 x1 x2 x3 x4 x5 x6 x7 x8 x9 x10 x11 x12 y z:Option T}:(x0::x1::x2::x3::x4::x5::x6::x7::x8::x9::x10::x11::x12::y::l:TS).set 13 z=x0::x1::x2::x3::x4::x5::x6::x7::x8::x9::x10::x11::x12::z::l:=Eq.trans rfl rfl
variable{σ:TS}{C:List Nat}{e:E}{i:Nat}
theorem qCJ(h:(C.contains i||C.contains (i+1000))=false):px gl P C (.asg (.name i) e) σ M=(pe gl P e σ M).bind λp=>.ok (.nx (σ.set i (some p.1.1)),p.2):=by
 rw[Bool.or_eq_false_iff]at h;rw[C1,h.1,h.2];rfl
@[simp high] theorem qFd:px gl P [] (.asg (.name i) e) σ M=(pe gl P e σ M).bind λp=>.ok (.nx (σ.set i (some p.1.1)),p.2):=qCJ rfl
variable{s:S}{r t0 u0:Ss}{σ':TS}{M':Mem}{c:E}{b:Bool}
theorem F4(e:px gl P C s σ M=.ok (.nx σ',M')):pxs gl P C (.cons s r) σ M=pxs gl P C r σ' M':=by rw[qd,e];rfl
section
variable{i f:Nat}{a b d z:E}{u v w:T}{fa fb fc fd:Bool}{M1 M2 M3 M4:Mem}{r:TB}
theorem Ql(ha:pe gl P a σ M=.ok ((t,fa),M1))(hb:pe gl P b σ M1=.ok ((u,fb),M2))(h:Jd M2 t u=some r):pe gl P (.idx a b) σ M=.ok (r,M2):=by
 rw[qC5,ha,tD,hb,tD,h];rfl
theorem QV{op:BOp}(ha:pe gl P a σ M=.ok ((t,fa),M1))(hb:pe gl P b σ M1=.ok ((u,fb),M2))(h:qr M2 op t u=some r):pe gl P (.bin op a b) σ M=.ok (r,M2):=by
 rw[qCP,ha,tD,hb,tD,h];rfl
theorem Qx{op:COp}{x:Bool}(ha:pe gl P a σ M=.ok ((t,fa),M1))(hb:pe gl P b σ M1=.ok ((u,fb),M2))(h:zB M2 op t u=some x):pe gl P (.cmp op a b) σ M=.ok (bT x,M2):=by
 rw[qAM,ha,tD,hb,tD,h];rfl
theorem qEB(h:pe gl P a σ M=.ok ((t,fa),M1))(hC:(C.contains i||C.contains (i+1000))=false):px gl P C (.asg (.name i) a) σ M=.ok (.nx (σ.set i (some t)),M1):=by
 rw[qCJ hC,h];rfl
theorem qE5{n:Nat}(ha:pe gl P a σ M=.ok ((.cell n,fa),M1))(hb:pe gl P b σ M1=.ok ((u,fb),M2))(h:i7 M2 n u=some M3):px gl P C (.expr (.app a b)) σ M=.ok (.nx σ,M3):=by
 rw[W2,qCG,ha,tD];show ((pe gl P b σ M1).bind _).bind _=_;rw[hb,tD];show ((tH (i7 M2 n u)).bind _).bind _=_;rw[h];rfl
end
end
noncomputable def apS:Ss->Ss->Ss
 | .nil,r=>r
 | .cons s t,r=>.cons s (apS t r)
def Cnd{α:Type}(y:Bool)(A B q:PR α):Prop:=(if y=true then A else B)=q/\True
theorem cT{α:Type}{A B q:PR α}(h:A=q):Cnd true A B q:=⟨h,trivial⟩
theorem cF{α:Type}{A B q:PR α}(h:B=q):Cnd false A B q:=⟨h,trivial⟩
theorem ll0:([]:List T).length<=lim:=(by decide:0<=lim)
theorem ll1{x0:T}:[x0].length<=lim:=(by decide:1<=lim)
theorem ll2{x0 x1:T}:[x0,x1].length<=lim:=(by decide:2<=lim)
theorem ll3{x0 x1 x2:T}:[x0,x1,x2].length<=lim:=(by decide:3<=lim)
theorem ll4{x0 x1 x2 x3:T}:[x0,x1,x2,x3].length<=lim:=(by decide:4<=lim)
theorem isT:true=true:=rfl
theorem isF:false=false:=rfl
theorem dT{p:Prop}{h:Decidable p}(hp:p):decide p=true:=uG hp
theorem nT{x:Bool}(h:x=false):(!x)=true:=by rw[h];rfl
theorem nF{x:Bool}(h:x=true):(!x)=false:=by rw[h];rfl
section
variable{gl:List T}{P:Nat->List T->Mem->PR (TB×Mem)}{C:List Nat}{σ σ':TS}{M M1 M2 M3 M4:Mem}
def PL(gl:List T)(P:Nat->List T->Mem->PR (TB×Mem))(as:Es)(σ:TS)(M:Mem)(ts:List T)(f:Bool)(M1:Mem):Prop:=∃xs,pes gl P as σ M=.ok (xs,M1)/\xs.map (·.1)=ts/\xs.all (·.2)=f/\xs.length=ts.length
variable{i f g:Nat}{a b c e:E}{as:Es}{t u v:T}{fa fb fc x y:Bool}{ts us:List T}{r:TB}{s:S}{rs t0 u0:Ss}{q:PR (PO×Mem)}
theorem jx:PL gl P .nil σ M [] true M:=⟨[],rfl,rfl,rfl,rfl⟩
theorem zP(ha:pe gl P a σ M=.ok ((t,fa),M1))(hb:PL gl P as σ M1 ts fb M2):PL gl P (.cons a as) σ M (t::ts) (fa&&fb) M2:=by
 obtain⟨xs,e,rfl,rfl,h⟩:=hb;refine⟨(t,fa)::xs,?_,rfl,rfl,congrArg (· + 1) h⟩;rw[w5,ha,tD,e];rfl
theorem O7{n:Nat}:pe gl P (nE n) σ M=.ok ((N n,true),M):=qEr n
theorem Y8{x:Bool}:pe gl P (.cst (.bl x)) σ M=.ok ((.v (.bl x),true),M):=rfl
theorem Qs:pe gl P (.cst .non) σ M=.ok ((.v .non,true),M):=rfl
theorem Qi{s:PySem.Str}:pe gl P (.cst (.str s)) σ M=.ok ((.v (.str s),true),M):=rfl
theorem za(h:PL gl P as σ M ts fa M1)(hp:P f ts M1=.ok (r,M2)):pe gl P (.call f as) σ M=.ok (r,M2):=by
 obtain⟨xs,e,rfl,rfl,_⟩:=h;rw[pe_call,e,tD];show (P f (xs.map (·.1)) M1).nx=_;rw[hp];rfl
theorem ZL{o:BF}(h:PL gl P as σ M ts fa M1)(hp:QC M1 o ts=some r):pe gl P (.blt o as) σ M=.ok (r,M1):=by
 obtain⟨xs,e,rfl,rfl,_⟩:=h;rw[qCI,e,tD];show (tH (QC M1 o (xs.map (·.1)))).bind _=_;rw[hp];rfl
theorem QP(h:PL gl P as σ M ts fa M1)(hl:ts.length<=lim):pe gl P (.lst as) σ M=.ok ((.lst ts,fa),M1):=by
 obtain⟨xs,e,rfl,rfl,hh⟩:=h;rw[pe_lst,e,tD];show (if xs.length<=lim then _ else _)=_;rw[hh,if_pos hl]
theorem QR(h:PL gl P as σ M ts fa M1)(hl:ts.length<=lim):pe gl P (.tup as) σ M=.ok ((.tup ts,fa),M1):=by
 obtain⟨xs,e,rfl,rfl,hh⟩:=h;rw[pe_tup,e,tD];show (if xs.length<=lim then _ else _)=_;rw[hh,if_pos hl]
theorem jA{it:Itr}{src:List (Option Nat)}{tg:Tg}{cs:Es}{d:jq}(h:pei gl P it σ M=.ok ((us,d),M1))(hc:qU d tg (pec gl P cs) (pe gl P e) us [] true (zC src σ) M1=.ok (r,M2)):pe gl P (.comp it src tg cs e) σ M=.ok (r,M2):=by
 rw[pe_comp,h];exact hc
theorem Qo(h:pe gl P a σ M=.ok (bT x,M1)):pe gl P (.not a) σ M=.ok (bT (!x),M1):=by rw[pe_not,h];rfl
theorem ZF{q:PR (TB×Mem)}(h:pe gl P a σ M=.ok (bT x,M1))(hx:x=y)(hq:Cnd y (pe gl P b σ M1) (.ok (bT false,M1)) q):pe gl P (.and a b) σ M=q:=by subst hx;rw[pe_and,h];exact hq.1
theorem g6{q:PR (TB×Mem)}(h:pe gl P a σ M=.ok (bT x,M1))(hx:x=y)(hq:Cnd y (.ok (bT true,M1)) (pe gl P b σ M1) q):pe gl P (.or a b) σ M=q:=by subst hx;rw[pe_or,h];exact hq.1
theorem Qw{q:PR (TB×Mem)}(h:pe gl P c σ M=.ok (bT x,M1))(hx:x=y)(hq:Cnd y (pe gl P a σ M1) (pe gl P b σ M1) q):pe gl P (.ite c a b) σ M=q:=by subst hx;rw[qCd,h];exact hq.1
theorem Qv{n:Nat}{ty:Mt}{r:TB}(h:pe gl P a σ M=.ok ((.cell n,fa),M1))(hs:PL gl P as σ M1 ts fb M2)(hm:JW ty n ts M2=some (r,M3)):pe gl P (.meth ty a as) σ M=.ok (r,M3):=by
 obtain⟨xs,e,rfl,rfl,_⟩:=hs;rw[qBJ,h,tD];show (pes gl P as σ M1).bind _=_;rw[e,tD];show tH (JW ty n (xs.map (·.1)) M2)=_;rw[hm];rfl
theorem zw(h:pe gl P a σ M=.ok ((t,fa),M1))(hl:Z6 t=some us):pe gl P (.lrng a) σ M=.ok ((.lst us,true),M1):=by
 rw[qBy,h,tD];show (tH (Z6 t)).bind _=_;rw[hl];rfl
theorem V3{lo hi:Es}{l h':List T}{is js:List Int}(h:pe gl P a σ M=.ok ((t,fa),M1))(h1:PL gl P lo σ M1 l fb M2)(h2:PL gl P hi σ M2 h' fc M3)(hi':t.its M3=some us)(e1:qW l=some is)(e2:qW h'=some js)(hr:p9 t us is.head? js.head?=some r):pe gl P (.sl a lo hi) σ M=.ok (r,M3):=by
 obtain⟨xs,e,rfl,rfl,_⟩:=h1;obtain⟨ys,e',rfl,rfl,_⟩:=h2;rw[qER,h,tD];show (pes gl P lo σ M1).bind _=_;rw[e,tD];show (pes gl P hi σ M2).bind _=_;rw[e',tD];show (tH (t.its M3)).bind _=_;rw[hi',PR.ofO_some,tD];show (tH (qW (xs.map (·.1)))).bind _=_;rw[e1,PR.ofO_some,tD];show (tH (qW (ys.map (·.1)))).bind _=_;rw[e2,PR.ofO_some,tD];show (tH (p9 t us is.head? js.head?)).bind _=_;rw[hr];rfl
theorem qCp{ks:List String}{n:String}(h:pe gl P a σ M=.ok ((t,fa),M1))(ht:zj M1 t=some n):pe gl P (.isi a ks) σ M=.ok (bT (ks.any (QW n)),M1):=by
 rw[qDR,h,tD];show (tH (zj M1 t)).bind _=_;rw[ht];rfl
theorem zq{d:jq}(h:pe gl P a σ M=.ok ((t,fa),M1))(hs:JU M1 t=some (us,d)):pei gl P (.list a) σ M=.ok ((us,d),M1):=by
 rw[w4,h,tD];show (tH (JU M1 t)).bind _=_;rw[hs];rfl
theorem ZO(h:pe gl P a σ M=.ok ((t,fa),M1))(hs:qB9 t=some us):pei gl P (.rng1 a) σ M=.ok ((us,[]),M1):=by
 rw[k7,h,tD];show (tH (qB9 t)).bind _=_;rw[hs];rfl
theorem ZE:pxs gl P C .nil σ M=.ok (.nx σ,M):=rfl
theorem D6:∀(t0 rs:Ss) (σ:TS) (M:Mem),pxs gl P C (apS t0 rs) σ M=(pxs gl P C t0 σ M).bind λp=>match p.1 with
  | .nx σ1=>pxs gl P C rs σ1 p.2
  |o=>.ok (o,p.2)
 | .nil,rs,σ,M=>rfl
 | .cons s t,rs,σ,M=>by
  show pxs gl P C (.cons s (apS t rs)) σ M=_;rw[qd,qd];cases px gl P C s σ M with
  |ok p=>
   obtain⟨o,M'⟩:=p;cases o with
   |nx σ1=>exact D6 t rs σ1 M'
   |_=>rfl
  |_=>rfl
def Ifs(gl:List T)(P:Nat->List T->Mem->PR (TB×Mem))(C:List Nat)(y:Bool)(t u r:Ss)(σ:TS)(M:Mem)(q:PR (PO×Mem)):Prop:=(if y=true then pxs gl P C (apS t r) σ M else pxs gl P C (apS u r) σ M)=q/\True
section
variable{s1 s2 s3 s4:S}
theorem t_0(h:pxs gl P C rs σ M=q):Ifs gl P C true .nil u0 rs σ M q:=⟨h,trivial⟩
theorem t_1(h:pxs gl P C (.cons s1 rs) σ M=q):Ifs gl P C true (.cons s1 .nil) u0 rs σ M q:=⟨h,trivial⟩
theorem t_2(h:pxs gl P C (.cons s1 (.cons s2 rs)) σ M=q):Ifs gl P C true (.cons s1 (.cons s2 .nil)) u0 rs σ M q:=⟨h,trivial⟩
theorem t_3(h:pxs gl P C (.cons s1 (.cons s2 (.cons s3 rs))) σ M=q):Ifs gl P C true (.cons s1 (.cons s2 (.cons s3 .nil))) u0 rs σ M q:=⟨h,trivial⟩
theorem f_0(h:pxs gl P C rs σ M=q):Ifs gl P C false t0 .nil rs σ M q:=⟨h,trivial⟩
theorem f_1(h:pxs gl P C (.cons s1 rs) σ M=q):Ifs gl P C false t0 (.cons s1 .nil) rs σ M q:=⟨h,trivial⟩
end
theorem c7(h:pe gl P c σ M=.ok (bT x,M1))(hx:x=y)(hq:Ifs gl P C y t0 u0 rs σ M1 q):pxs gl P C (.cons (.ifs c t0 u0) rs) σ M=q:=by
 subst hx;rw[qd,qDk,h,qE1,tD];have hq:=hq.1;rw[D6,D6]at hq;cases x<;>exact hq
theorem ZQ(hC:(C.contains i||C.contains (i+1000))=false)(h:pe gl P e σ M=.ok ((t,fa),M1))(hs:σ.set i (some t)=σ')(hr:pxs gl P C rs σ' M1=q):pxs gl P C (.cons (.asg (.name i) e) rs) σ M=q:=by
 rw[F4 (qEB h hC),hs];exact hr
theorem zr{B:Mem}(hC:C.contains i=true)(h:pe gl P e σ M=.ok ((t,true),M1))(ht:thaw M1.length t=(u,B))(hs:σ.set i (some u)=σ')(hr:pxs gl P C rs σ' (M1++B)=q):pxs gl P C (.cons (.asg (.name i) e) rs) σ M=q:=by
 rw[qd,C1,h,tD];show ((if (C.contains i&&true)=true then PR.ok (.nx (σ.set i (some (thaw M1.length t).1)),M1++(thaw M1.length t).2) else _:PR (PO×Mem)).bind _)=_;rw[hC,if_pos (show (true&&true)=true from rfl),ht,tD,hs];exact hr
theorem zA{ts:List T}(h0:(!C.contains i&&(C.contains (i+1000)&&qCB e))=true)(h:pe gl P e σ M=.ok ((.lst ts,fa),M1))(hs:σ.set i (some (.cell M1.length))=σ')(hr:pxs gl P C rs σ' (M1++[ts])=q):pxs gl P C (.cons (.asg (.name i) e) rs) σ M=q:=by
 obtain⟨h0,hC⟩:=Bool.and_eq_true_iff.mp h0;have h0:C.contains i=false:=by cases hc:C.contains i<;>simp_all
 rw[qd,C1,h,tD];dsimp only;rw[h0,if_neg (by simp),if_pos hC,tD,hs];exact hr
theorem zx{j:Nat}{σ1:TS}(h:pe gl P e σ M=.ok ((.tup [t,u],fa),M1))(h1:σ.set i (some t)=σ1)(h2:σ1.set j (some u)=σ')(hr:pxs gl P C rs σ' M1=q):pxs gl P C (.cons (.asg (.tup [i,j]) e) rs) σ M=q:=by
 rw[qd,qCH,h,tD];subst h1;subst h2;exact hr
theorem ZI{o k a:E}{p n z:T}(ha:pe gl P a σ M=.ok ((z,fa),M1))(ho:pe gl P o σ M1=.ok ((p,fb),M2))(hk:pe gl P k σ M2=.ok ((n,fc),M3))(hp:qDP M3 p n z=some M4)(hr:pxs gl P C rs σ M4=q):pxs gl P C (.cons (.put o k a) rs) σ M=q:=by
 rw[qd,qDF,ha,tD];show ((pe gl P o σ M1).bind _).bind _=_;rw[ho,tD];show ((pe gl P k σ M2).bind _).bind _=_;rw[hk,tD];show ((tH (qDP M3 p n z)).bind _).bind _=_;rw[hp];exact hr
theorem ZR{n:Nat}(ha:pe gl P a σ M=.ok ((.cell n,fa),M1))(hb:pe gl P b σ M1=.ok ((u,fb),M2))(h:i7 M2 n u=some M3)(hr:pxs gl P C rs σ M3=q):pxs gl P C (.cons (.expr (.app a b)) rs) σ M=q:=by
 rw[F4 (qE5 ha hb h)];exact hr
theorem zn(h:pe gl P e σ M=.ok (r,M1))(hr:pxs gl P C rs σ M1=q):pxs gl P C (.cons (.expr e) rs) σ M=q:=by
 rw[qd,W2,h];exact hr
theorem C5(h:pe gl P e σ M=.ok (r,M1)):pxs gl P C (.cons (.ret e) rs) σ M=.ok (.rt r,M1):=by
 rw[qd,qDz,h];rfl
theorem Ja{r':TB}(h:pe gl P e σ M=.ok (r,M1))(hr:r=r'):pxs gl P C (.cons (.ret e) rs) σ M=.ok (.rt r',M1):=by rw[C5 h,hr]
theorem Qu{it:Itr}{tg:Tg}{d:jq}{σ2:TS}(h:pei gl P it σ M=.ok ((us,d),M1))(hf:zN d tg (pxs gl P C t0) us σ M1=.ok (.nx σ2,M2))(hr:pxs gl P C rs σ2 M2=q):pxs gl P C (.cons (.for_ tg it t0) rs) σ M=q:=by
 rw[qd,qCK,h,tD];dsimp only;rw[hf];exact hr
theorem X3{tb:List Fn}{Cs:List (List Nat)}{k np ns:Nat}{b:Ss}{vs:List T}{q:PR (PO×Mem)}{z:PR (TB×Mem)}(ht:tb[f]?=some ⟨np,ns,b⟩)(hl:vs.length=np/\np<=ns)(hk:1<=k)(hC:Cs.getD f []=C)(hs:vs.map some++List.replicate (ns-np) none=σ)(h:pxs gl (Pk gl tb Cs (k-1)) C b σ M=q)(hv:Js M.length q=z):Pk gl tb Cs k f vs M=z:=by
 rw[qi ht hl hk,hC,hs,h];exact hv
theorem cN{C:List Nat}{i:Nat}(h:(C.contains i||C.contains (i+1000))=false):(C.contains i||C.contains (i+1000))=false:=h
theorem Y0{n:Nat}(h:us[n]?=some t):Jd M (.lst us) (N n)=some (t,t.lf):=by rw[ZW,h];rfl
theorem R7{n:Nat}(h:us[n]?=some t):Jd M (.tup us) (N n)=some (t,t.lf):=by rw[qDa,h];rfl
theorem S6{n m:Nat}(h0:M[m]?=some us)(h:us[n]?=some t):Jd M (.cell m) (N n)=some (t,t.lf):=by rw[qE2,h0,Option.bind_some,h];rfl
end
end _P
namespace GF
inductive Sp(L:List Nat):Nat->Prop
 |zero:Sp L 0
 |add{x y:Nat}:x∈L->Sp L y->Sp L (x ^^^ y)
theorem Sp.xor{L:List Nat}{a b:Nat}(h:Sp L a)(k:Sp L b):Sp L (a ^^^ b):=by
 induction h with
 |zero=>rw[Nat.zero_xor];exact k
 |add m _ ih=>rw[Nat.xor_assoc];exact .add m ih
theorem Sp.of{L:List Nat}{x:Nat}(h:x∈L):Sp L x:=by have:=Sp.add h (.zero (L:=L));rwa [Nat.xor_zero]at this
theorem Sp.sub{L K:List Nat}(h:∀x∈L,Sp K x){y:Nat}(k:Sp L y):Sp K y:=by
 induction k with
 |zero=>exact .zero
 |add m _ ih=>exact(h _ m).xor ih
theorem Sp.lt{L:List Nat}{b:Nat}(h:∀x∈L,x<2 ^ b){y:Nat}(k:Sp L y):y<2 ^ b:=by
 induction k with
 |zero=>exact Nat.pow_pos (by decide)
 |add m _ ih=>exact Nat.xor_lt_two_pow (h _ m) ih
noncomputable def rch(q t:Nat):Bool:=decide (q&&& t=t)
theorem rch_iff{q t:Nat}:rch q t=true↔∀i,t.testBit i=true->q.testBit i=true:=by
 unfold rch;rw[uH];constructor
 ·intro h i hi;have:=congrArg (·.testBit i) h;simp only[Nat.testBit_and,hi,vT]at this;exact this
 ·intro h;refine Nat.eq_of_testBit_eq λi=>?_;rw[Nat.testBit_and];cases e:t.testBit i with
  |true=>rw[h i e];rfl
  |false=>rw[vD]
theorem Qj{s x:Nat}(hx:x<2 ^ s)(i:Nat):(2 ^ s+x).testBit i=(decide (i=s)||x.testBit i):=by
 rcases Nat.lt_trichotomy i s with h|h|h
 ·rw[Nat.testBit_two_pow_add_gt h,uF (by omega),Bool.false_or]
 ·subst h;rw[Nat.testBit_two_pow_add_eq,vF hx];simp
 ·rw[vF (wG (show 2 ^ s+x<2 ^ (s+1) by rw[wy];omega) (we (by decide) h)),vF (wG hx (we (by decide) (wv h))),uF (by omega)];rfl
theorem Y5{s q t:Nat}(hq:q<2 ^ s)(ht:t<2 ^ s):rch (2 ^ s+q) t=rch q t:=by
 rw[wj,rch_iff,rch_iff];refine⟨λh i hi=>?_,λh i hi=>?_⟩
 ·have:=h i hi;rw[Qj hq]at this;by_cases e:i=s
  ·subst e;rw[vF ht]at hi;cases hi
  ·simpa [e] using this
 ·rw[Qj hq,h i hi,uA]
theorem Y4{s q t:Nat}(hq:q<2 ^ s)(ht:t<2 ^ s):rch (2 ^ s+q) (2 ^ s+t)=rch q t:=by
 rw[wj,rch_iff,rch_iff];refine⟨λh i hi=>?_,λh i hi=>?_⟩
 ·have:=h i (by rw[Qj ht,hi,uA]);rw[Qj hq]at this;by_cases e:i=s
  ·subst e;rw[vF ht]at hi;cases hi
  ·simpa [e] using this
 ·rw[Qj ht]at hi;rw[Qj hq];by_cases e:i=s
  ·simp[e]
  ·rw[h i (by simpa [e] using hi),uA]
theorem qAa{s q t:Nat}(hq:q<2 ^ s)(ht:t<2 ^ s):rch q (2 ^ s+t)=false:=by
 cases e:rch q (2 ^ s+t) with
 |false=>rfl
 |true=>
  have:=rch_iff.mp e s (by rw[Qj ht];simp);rw[vF hq]at this;cases this
noncomputable def lp:Nat->(Nat->Bool)->Nat->Bool
 | 0,S,p=>S p
 |s+1,S,p=>if p<2 ^ s then lp s (λt=>S t||S (t+2 ^ s)) p else lp s (λt=>S t&&S (t+2 ^ s)) (p-2 ^ s)
inductive Cb(s:Nat)(S:Nat->Bool):(Nat->Bool)->Prop
 |zero:Cb s S λ_=>false
 |add{t:Nat}{g:Nat->Bool}:t<2 ^ s->S t=false->Cb s S g->Cb s S λq=>(rch q t ^^ g q)
theorem pw(s:Nat):2 ^ (s+1)=2 ^ s+2 ^ s:=by rw[wy];omega
theorem Cb.both{s:Nat}{S:Nat->Bool}{g:Nat->Bool}(h:Cb s (λt=>S t||S (t+2 ^ s)) g):∃g',Cb (s+1) S g'/\(∀q,q<2 ^ s->g' q=g q)/\∀q,q<2 ^ s->g' (2 ^ s+q)=false:=by
 have:=pw s
 induction h with
 |zero=>exact⟨_,.zero,λ_ _=>rfl,λ_ _=>rfl⟩
 | @add t g ht hS _ ih=>
  obtain⟨g',k,a,b⟩:=ih;simp only[Bool.or_eq_false_iff]at hS;refine⟨_,.add (t:=t) (by omega) hS.1 (.add (t:=2 ^ s+t) (by omega) (by rw[Nat.add_comm];exact hS.2) k),λq hq=>?_,λq hq=>?_⟩
  ·rw[qAa hq ht,a q hq,vm]
  ·rw[Y5 hq ht,Y4 hq ht,b q hq,vn,Bool.xor_self]
theorem Cb.one{s:Nat}{S:Nat->Bool}{g:Nat->Bool}(h:Cb s (λt=>S t&&S (t+2 ^ s)) g):∃g',Cb (s+1) S g'/\∀q,q<2 ^ s->g' (2 ^ s+q)=g q:=by
 have:=pw s
 induction h with
 |zero=>exact⟨_,.zero,λ_ _=>rfl⟩
 | @add t g ht hS _ ih=>
  obtain⟨g',k,b⟩:=ih;cases e:S t with
  |false=>
   refine⟨_,.add (t:=t) (by omega) e k,λq hq=>?_⟩;rw[Y5 hq ht,b q hq]
  |true=>
   have e2:S (t+2 ^ s)=false:=by
    have:(S t&&S (t+2 ^ s))=false:=hS;rw[e,Bool.true_and]at this;exact this
   refine⟨_,.add (t:=2 ^ s+t) (by omega) (by rw[Nat.add_comm];exact e2) k,λq hq=>?_⟩;rw[Y4 hq ht,b q hq]
theorem told:∀(s:Nat) (S:Nat->Bool) (p:Nat),p<2 ^ s->lp s S p=false->∃g,Cb s S g/\∀q,p<=q->q<2 ^ s->g q=decide (q=p)
 | 0,S,p,hp,h=>by
  have e:p=0:=by omega
  subst e;refine⟨_,.add (t:=0) (by decide) h .zero,λq _ hq=>?_⟩;rw[show q=0 by omega];rfl
 |s+1,S,p,hp,h=>by
  have:=pw s;unfold lp at h;split at h
  ·rename_i c;obtain⟨g,k,e⟩:=told s _ p c h;obtain⟨g',k',a,b⟩:=k.both;refine⟨g',k',λq h1 h2=>?_⟩;by_cases hq:q<2 ^ s
   ·rw[a q hq,e q h1 hq]
   ·have:=b (q-2 ^ s) (by omega);rw[show 2 ^ s+(q-2 ^ s)=q by omega]at this;rw[this,uF (by omega)]
  ·rename_i c;obtain⟨g,k,e⟩:=told s _ (p-2 ^ s) (by omega) h;obtain⟨g',k',b⟩:=k.one;refine⟨g',k',λq h1 h2=>?_⟩;have:=b (q-2 ^ s) (by omega);rw[show 2 ^ s+(q-2 ^ s)=q by omega,e (q-2 ^ s) (by omega) (by omega)]at this;rw[this];congr 1;rw[eq_iff_iff];omega
noncomputable def par:Nat->(Nat->Bool)->Bool
 | 0,_=>false
 |n+1,f=>(par n f ^^ f n)
theorem V8(m:Nat)(f:Nat->Bool):∀n,par (m+n) f=(par m f ^^ par n λt=>f (m+t))
 | 0=>by show par m f=(par m f ^^ false);rw[vn]
 |n+1=>by
  show (par (m+n) f ^^ f (m+n))=(par m f ^^ (par n (λt=>f (m+t)) ^^ f (m+n)));rw[V8 m f n,Bool.xor_assoc]
theorem par_congr:∀(n:Nat) (f g:Nat->Bool),(∀t,t<n->f t=g t)->par n f=par n g
 | 0,_,_,_=>rfl
 |n+1,f,g,h=>by unfold par;rw[par_congr n f g λt ht=>h t (by omega),h n (by omega)]
theorem par_false:∀(n:Nat),par n (λ_=>false)=false
 | 0=>rfl
 |n+1=>by unfold par;rw[par_false n];rfl
theorem par_xor:∀(n:Nat) (f g:Nat->Bool),par n (λt=>f t ^^ g t)=(par n f ^^ par n g)
 | 0,_,_=>rfl
 |n+1,f,g=>by
  show (par n (λt=>f t ^^ g t) ^^ (f n ^^ g n))=((par n f ^^ f n) ^^ (par n g ^^ g n));rw[par_xor n f g];cases par n f<;>cases par n g<;>cases f n<;>cases g n<;>rfl
noncomputable def wd:Nat->(Nat->Bool)->Nat->Bool
 | 0,c,t=>c t
 |s+1,c,t=>if t<2 ^ s then (wd s c t ^^ wd s (λq=>c (2 ^ s+q)) t) else wd s (λq=>c (2 ^ s+q)) (t-2 ^ s)
theorem wd_congr:∀(s:Nat) (a b:Nat->Bool) (t:Nat),(∀q,q<2 ^ s->a q=b q)->t<2 ^ s->wd s a t=wd s b t
 | 0,a,b,t,h,ht=>h t ht
 |s+1,a,b,t,h,ht=>by
  have:=pw s;unfold wd;split
  ·rw[wd_congr s a b t (λq hq=>h q (by omega)) (by omega),wd_congr s _ (λq=>b (2 ^ s+q)) t (λq hq=>h _ (by omega)) (by omega)]
  ·exact wd_congr s _ _ _ (λq hq=>h _ (by omega)) (by omega)
theorem M7:∀(s:Nat) (a b:Nat->Bool) (t:Nat),wd s (λq=>a q ^^ b q) t=(wd s a t ^^ wd s b t)
 | 0,_,_,_=>rfl
 |s+1,a,b,t=>by
  unfold wd;split
  ·rw[M7 s a b,M7 s (λq=>a (2 ^ s+q)) λq=>b (2 ^ s+q)];generalize wd s a t=x;generalize wd s b t=y;generalize wd s (λq=>a (2 ^ s+q)) t=z;generalize wd s (λq=>b (2 ^ s+q)) t=u;cases x<;>cases y<;>cases z<;>cases u<;>rfl
  ·exact M7 s _ _ _
theorem o9:∀(s:Nat) (c:Nat->Bool) (t:Nat),t<2 ^ s->wd s (wd s c) t=c t
 | 0,c,t,_=>rfl
 |s+1,c,t,ht=>by
  have:=pw s;have e2:∀t,t<2 ^ s->wd s (λq=>wd (s+1) c (2 ^ s+q)) t=c (2 ^ s+t):=λt ht=>by
   rw[wd_congr s _ (wd s λq=>c (2 ^ s+q)) t (λq hq=>by rw[wd,if_neg (by omega),wn]) ht];exact o9 s _ t ht
  have e1:∀t,t<2 ^ s->wd s (wd (s+1) c) t=(c t ^^ c (2 ^ s+t)):=λt ht=>by
   rw[wd_congr s _ (λq=>wd s c q ^^ wd s (λq=>c (2 ^ s+q)) q) t (λq hq=>by rw[wd,if_pos hq]) ht,M7,o9 s c t ht,o9 s _ t ht]
  rw[wd];split
  ·rename_i h;rw[e1 t h,e2 t h,Bool.xor_assoc,Bool.xor_self,vn]
  ·rename_i h;rw[e2 (t-2 ^ s) (by omega),show 2 ^ s+(t-2 ^ s)=t by omega]
theorem wd_par:∀(s:Nat) (c:Nat->Bool) (t:Nat),t<2 ^ s->wd s c t=par (2 ^ s) λq=>c q&&rch q t
 | 0,c,t,ht=>by
  rw[show t=0 by omega];show c 0=(false ^^ (c 0&&true));rw[vT,vm]
 |s+1,c,t,ht=>by
  have:=pw s;rw[this,V8,wd];split
  ·rename_i h;rw[wd_par s c t h,wd_par s _ t h];congr 1;exact par_congr _ _ _ λq hq=>by rw[Y5 hq h]
  ·rename_i h;obtain⟨u,rfl⟩:∃u,t=2 ^ s+u:=⟨t-2 ^ s,by omega⟩
   have hu:u<2 ^ s:=by omega
   rw[wn,wd_par s _ u hu,par_congr (2 ^ s) (λq=>c q&&rch q (2 ^ s+u)) (λ_=>false) (λq hq=>by rw[qAa hq hu,vD]),par_false,vm];exact par_congr _ _ _ λq hq=>by rw[Y4 hq hu]
theorem open_:∀(s:Nat) (S:Nat->Bool) (p:Nat),p<2 ^ s->lp s S p=true->∃c:Nat->Bool,(∀q,q<p->c q=false)/\c p=true/\∀t,t<2 ^ s->S t=false->wd s c t=false
 | 0,S,p,hp,h=>by
  have e:p=0:=by omega
  subst e;refine⟨λ_=>true,λq hq=>by omega,rfl,λt ht hS=>?_⟩;rw[show t=0 by omega]at hS;rw[show lp 0 S 0=S 0 from rfl]at h;rw[h]at hS;cases hS
 |s+1,S,p,hp,h=>by
  have:=pw s;unfold lp at h;split at h
  ·rename_i hq;obtain⟨c,c1,c2,c3⟩:=open_ s _ p hq h;refine⟨λq=>if q<2 ^ s then c q else wd s (λt=>S (t+2 ^ s)&&wd s c t) (q-2 ^ s),λq h'=>?_,?_,λt ht hS=>?_⟩
   ·dsimp only;rw[if_pos (by omega)];exact c1 q h'
   ·dsimp only;rw[if_pos hq];exact c2
   ·have w1:∀t,t<2 ^ s->wd s (λq=>if q<2 ^ s then c q else wd s (λt=>S (t+2 ^ s)&&wd s c t) (q-2 ^ s)) t=wd s c t:=λt ht=>wd_congr s _ _ t (λq hq=>by rw[if_pos hq]) ht;have w2:∀t,t<2 ^ s->wd s (λq=>if 2 ^ s+q<2 ^ s then c (2 ^ s+q) else wd s (λt=>S (t+2 ^ s)&&wd s c t) (2 ^ s+q-2 ^ s)) t=(S (t+2 ^ s)&&wd s c t):=λt ht=>by
     rw[wd_congr s _ (wd s λt=>S (t+2 ^ s)&&wd s c t) t (λq hq=>by rw[if_neg (by omega),wn]) ht];exact o9 s _ t ht
    rw[wd];split
    ·rename_i ht';rw[w1 t ht',w2 t ht'];cases e:S (t+2 ^ s) with
     |true=>rw[Bool.true_and,Bool.xor_self]
     |false=>
      rw[uB,vn];exact c3 t ht' (by rw[hS,e];rfl)
    ·rename_i ht';rw[w2 (t-2 ^ s) (by omega),show t-2 ^ s+2 ^ s=t by omega,hS,uB]
  ·rename_i hq;obtain⟨c,c1,c2,c3⟩:=open_ s _ (p-2 ^ s) (by omega) h;refine⟨λq=>if q<2 ^ s then false else c (q-2 ^ s),λq h'=>?_,?_,λt ht hS=>?_⟩
   ·dsimp only;split
    ·rfl
    ·exact c1 _ (by omega)
   ·dsimp only;rw[if_neg hq];exact c2
   ·have w1:∀t,t<2 ^ s->wd s (λq=>if q<2 ^ s then false else c (q-2 ^ s)) t=false:=λt ht=>by
     rw[wd_congr s _ (λ_=>false) t (λq hq=>by rw[if_pos hq]) ht,wd_par s _ t ht,par_congr _ _ (λ_=>false) (λq _=>by rw[uB]),par_false]
    have w2:∀t,t<2 ^ s->wd s (λq=>if 2 ^ s+q<2 ^ s then false else c (2 ^ s+q-2 ^ s)) t=wd s c t:=λt ht=>wd_congr s _ _ t (λq hq=>by rw[if_neg (by omega),wn]) ht;rw[wd];split
    ·rename_i ht';rw[w1 t ht',w2 t ht',vm];exact c3 t ht' (by rw[hS];rfl)
    ·rename_i ht';rw[w2 (t-2 ^ s) (by omega)];exact c3 _ (by omega) (by rw[show t-2 ^ s+2 ^ s=t by omega,hS,vD])
noncomputable def JS(l:List Nat)(f:Nat->Bool):Bool:=l.foldr (λx b=>(f x ^^ b)) false
theorem Qq(x:Nat)(l:List Nat)(f:Nat->Bool):JS (x::l) f=(f x ^^ JS l f):=rfl
theorem E4{f:Nat->Bool}:∀l:List Nat,(∀x∈l,f x=false)->JS l f=false
 | [],_=>rfl
 |x::l,h=>by rw[Qq,h x (by simp),E4 l λy hy=>h y (by simp[hy])];rfl
theorem swap(n:Nat)(c:Nat->Bool)(r:Nat->Nat->Bool):∀l:List Nat,par n (λq=>c q&&JS l (r q))=JS l λt=>par n λq=>c q&&r q t
 | []=>by
  show par n (λq=>c q&&false)=false;rw[par_congr _ _ (λ_=>false) λq _=>by rw[vD],par_false]
 |t::l=>by
  rw[Qq,<-swap n c r l,<-par_xor];exact par_congr _ _ _ λq _=>by rw[Qq];cases c q<;>rfl
theorem jW:∀(n P:Nat) (c:Nat->Bool),P<n->par n (λq=>c q&&decide (q=P))=c P
 | 0,P,c,h=>by omega
 |n+1,P,c,h=>by
  show (par n (λq=>c q&&decide (q=P)) ^^ (c n&&decide (n=P)))=c P;by_cases e:n=P
  ·subst e;rw[par_congr _ _ (λ_=>false) (λq hq=>by rw[uF (by omega),vD]),par_false,uG rfl,vT,vm]
  ·rw[jW n P c (by omega),uF e,vD,vn]
def Ris(lo hi:Nat):List Nat->Prop
 | []=>True
 |x::L=>lo<=x/\x<hi/\Ris (x+1) hi L
theorem Ris.mem{hi:Nat}:∀{L:List Nat}{lo:Nat},Ris lo hi L->∀x∈L,lo<=x/\x<hi
 |y::L,lo,⟨a,b,c⟩,x,hx=>by
  rcases wP.mp hx with rfl|hx
  ·exact⟨a,b⟩
  ·have:=c.mem x hx;omega
theorem Ris.wide{hi lo' hi':Nat}:∀{L:List Nat}{lo:Nat},Ris lo hi L->lo'<=lo->hi<=hi'->Ris lo' hi' L
 | [],_,_,_,_=>trivial
 |y::L,lo,⟨a,b,c⟩,h1,h2=>⟨by omega,by omega,c.wide (wF _) h2⟩
theorem Ris.up{lo hi:Nat}:∀{L:List Nat},lo<=hi->Ris lo hi L->Ris lo hi L
 |_,_,h=>h
theorem Ris.app{mid hi:Nat}{B:List Nat}(hB:Ris mid hi B)(hm:mid<=hi):∀{A:List Nat}{lo:Nat},lo<=mid->Ris lo mid A->Ris lo hi (A++B)
 | [],lo,hl,_=>hB.wide hl (wF _)
 |y::A,lo,hl,⟨a,b,c⟩=>⟨a,by omega,Ris.app hB hm (by omega) c⟩
theorem Ris.add{hi:Nat}(d:Nat):∀{L:List Nat}{lo:Nat},Ris lo hi L->Ris (d+lo) (d+hi) (L.map (d + ·))
 | [],_,_=>trivial
 |y::L,lo,⟨a,b,c⟩=>⟨show d+lo<=d+y by omega,show d+y<d+hi by omega,(c.add d).wide (show d+y+1<=d+(y+1) by omega) (wF _)⟩
theorem Ris.filter{hi:Nat}(p:Nat->Bool):∀{L:List Nat}{lo:Nat},Ris lo hi L->Ris lo hi (L.filter p)
 | [],_,_=>trivial
 |y::L,lo,⟨a,b,c⟩=>by
  cases q:p y with
  |true=>rw[wo q];exact⟨a,b,c.filter p⟩
  |false=>rw[vB (by simp[q])];exact(c.filter p).wide (by omega) (wF _)
structure Told(s:Nat)(S:Nat->Bool)(P:Nat)(sp pl:List Nat):Prop where
 r1:Ris 0 (2 ^ s) sp
 r2:Ris 0 P pl
 off:∀t∈sp,S t=false
 sum:∀p,p<2 ^ s->(JS sp (λt=>rch p t) ^^ JS pl λq=>decide (q=p))=decide (p=P)
structure Open(s:Nat)(S:Nat->Bool)(P:Nat)(c:Nat->Bool):Prop where
 c1:∀q,q<P->c q=false
 c2:c P=true
 c3:∀t,t<2 ^ s->S t=false->wd s c t=false
theorem never{s P:Nat}{S S':Nat->Bool}{sp pl:List Nat}{c:Nat->Bool}(hP:P<2 ^ s)(t:Told s S P sp pl)(hS:∀t∈sp,S' t=false)(o:Open s S' P c):False:=by
 have e:=jW (2 ^ s) P c hP;rw[o.c2]at e;have e2:par (2 ^ s) (λq=>c q&&decide (q=P))=par (2 ^ s) λq=>(c q&&JS sp (λt=>rch q t)) ^^ (c q&&JS pl λz=>decide (z=q)):=par_congr _ _ _ λq hq=>by
  rw[<-t.sum q hq];cases c q<;>rfl
 rw[e2,par_xor,swap,swap]at e;have a1:JS sp (λt=>par (2 ^ s) λq=>c q&&rch q t)=false:=E4 _ λx hx=>by
  have:=(t.r1.mem x hx).2;rw[<-wd_par s c x this];exact o.c3 x this (hS x hx)
 have a2:JS pl (λz=>par (2 ^ s) λq=>c q&&decide (z=q))=false:=E4 _ λz hz=>by
  have:=(t.r2.mem z hz).2;rw[par_congr _ _ (λq=>c q&&decide (q=z)) λq _=>by rw[show (decide (z=q))=decide (q=z) by simp[eq_comm]],jW _ z c (by omega)];exact o.c1 z this
 rw[a1,a2]at e;cases e
theorem Open.lost{s P:Nat}{S:Nat->Bool}{c:Nat->Bool}(hP:P<2 ^ s)(o:Open s S P c):lp s S P=true:=by
 cases e:lp s S P with
 |true=>rfl
 |false=>
  exfalso;obtain⟨g,k,hg⟩:=told s S P hP e;have z:par (2 ^ s) (λq=>c q&&g q)=false:=by
   clear hg e
   induction k with
   |zero=>rw[par_congr _ _ (λ_=>false) λq _=>by rw[vD],par_false]
   | @add t g ht hS _ ih=>
    rw[par_congr _ _ (λq=>(c q&&rch q t) ^^ (c q&&g q)) λq _=>by cases c q<;>rfl,par_xor,ih,<-wd_par s c t ht,o.c3 t ht hS];rfl
  rw[par_congr _ _ (λq=>c q&&decide (q=P)) (λq hq=>by
   by_cases h:P<=q
   ·rw[hg q h hq]
   ·rw[o.c1 q (by omega)];rfl),jW _ P c hP,o.c2]at z
  cases z
theorem Told.kept{s P:Nat}{S S':Nat->Bool}{sp pl:List Nat}(hP:P<2 ^ s)(t:Told s S P sp pl)(hS:∀t∈sp,S' t=false):lp s S' P=false:=by
 cases e:lp s S' P with
 |false=>rfl
 |true=>
  exfalso;obtain⟨c,c1,c2,c3⟩:=open_ s S' P hP e;exact never hP t hS ⟨c1,c2,c3⟩
noncomputable def hid(s:Nat)(S c:Nat->Bool)(t:Nat):Bool:=if S t then false else wd s c t
end GF
namespace _M
open PySem PySem.Spec PyProof.Rows _L _P
noncomputable def top(i:Nat):Stmt:=PySem.Challenge.pw_healhalves_k15_lost_by_all_cores.main.body.getD i (.Pass ⟨0,0,0,0⟩)
noncomputable def Tb:Tbl:=⟨[⟨"is_whole",top 7,["thing"],["thing"]⟩,
 ⟨"is_number_below",top 8,["thing","end"],["thing","end"]⟩,
 ⟨"is_rising",top 9,["thing","end"],["thing","end","least","number"]⟩,
 ⟨"length_of",top 10,["size"],["size"]⟩,
 ⟨"is_size",top 11,["thing"],["thing"]⟩,
 ⟨"check_size",top 12,["size"],["size"]⟩,
 ⟨"check_loss",top 14,["size","loss"],["size","loss"]⟩,
 ⟨"halves_below",top 15,["half","loss"],["half","loss","either","both"]⟩,
 ⟨"places_lost",top 16,["size","loss"],["size","loss"]⟩,
 ⟨"lost_below",top 17,["length","loss"],["length","loss","half","halves"]⟩,
 ⟨"_law_begun",top 19,["_law_script","_law_k"],["_law_script","_law_k","_law_cell","_law_number","_law_mixed"]⟩,
 ⟨"_law_take",top 20,["_law_state","_law_many"],["_law_state","_law_many","_law_digit","_law_made","_law_turn"]⟩,
 ⟨"_law_loss",top 21,["_law_state","_law_many"],["_law_state","_law_many","_law_way","_law_bound"]⟩,
 ⟨"_law_word",top 22,["_law_core"],["_law_core","_law_found","_law_spot"]⟩,
 ⟨"_law_cores",top 23,["_law_many"],["_law_many","_law_found","_law_place"]⟩,
 ⟨"_law_open",top 24,["_law_cores_here","_law_loss_here"],["_law_cores_here","_law_loss_here","_law_found","_law_core","_law_word_here","_law_kept"]⟩,
 ⟨"law",top 25,["_law_script"],["_law_script","_law_shelf","_law_size","_law_k","_law_state","_law_loss_here","_law_handed","_law_found","_law_due"]⟩],
 [("LENGTHS",E.glob 0),("GREATEST_SIZE",E.cst (.int 5))],
 ["len","sum","max","min","list","int","range","isinstance","bool","sorted","set","ValueError"],[],[]⟩
noncomputable def gs:List O:=[O.tup [V.int 1,V.int 2,V.int 4,V.int 8,V.int 16,V.int 32]]
end _M
namespace _M
open PySem PySem.Spec _P
open _L (V)
noncomputable def b0:Ss:=(.cons (.ret (.and (.isi (.var 0) ["int"]) (.not (.isi (.var 0) ["bool"])))) .nil)
noncomputable def b1:Ss:=(.cons (.ret (.and (.call 0 (.cons (.var 0) .nil)) (.cmp2 .le .lt (nE 0) (.var 0) (.var 1)))) .nil)
noncomputable def qB1:Ss:=(.cons (.ifs (.or (.not (.call 1 (.cons (.var 3) (.cons (.var 1) .nil)))) (.cmp .lt (.var 3) (.var 2))) (.cons (.ret (.cst (V.bl false))) .nil) .nil) (.cons (.asg (.name 2) (.bin .add (.var 3) (nE 1))) .nil))
noncomputable def b2:Ss:=(.cons (.ifs (.not (.isi (.var 0) ["list"])) (.cons (.ret (.cst (V.bl false))) .nil) .nil) (.cons (.asg (.name 2) (nE 0)) (.cons (.for_ (.name 3) (.list (.var 0)) qB1) (.cons (.ret (.cst (V.bl true))) .nil))))
noncomputable def b3:Ss:=(.cons (.ret (.idx (.glob 0) (.var 0))) .nil)
noncomputable def b4:Ss:=(.cons (.ret (.and (.call 0 (.cons (.var 0) .nil)) (.cmp2 .le .le (nE 1) (.var 0) (nE 5)))) .nil)
noncomputable def b5:Ss:=(.cons (.ifs (.not (.call 4 (.cons (.var 0) .nil))) (.cons .stop .nil) .nil) .nil)
noncomputable def b6:Ss:=(.cons (.ifs (.not (.call 2 (.cons (.var 1) (.cons (.call 3 (.cons (.var 0) .nil)) .nil)))) (.cons .stop .nil) .nil) .nil)
noncomputable def b7:Ss:=(.cons (.asg (.name 2) (.comp (.rng1 (.var 0)) [none,some 0,some 1] (.name 0) (.cons (.or (.cmp .inn (.var 0) (.var 2)) (.cmp .inn (.bin .add (.var 0) (.var 1)) (.var 2))) .nil) (.var 0))) (.cons (.asg (.name 3) (.comp (.rng1 (.var 0)) [none,some 0,some 1] (.name 0) (.cons (.and (.cmp .inn (.var 0) (.var 2)) (.cmp .inn (.bin .add (.var 0) (.var 1)) (.var 2))) .nil) (.var 0))) (.cons (.ret (.tup (.cons (.var 2) (.cons (.var 3) .nil)))) .nil)))
noncomputable def b8:Ss:=(.cons (.expr (.call 5 (.cons (.var 0) .nil))) (.cons (.expr (.call 6 (.cons (.var 0) (.cons (.var 1) .nil)))) (.cons (.ret (.call 9 (.cons (.call 3 (.cons (.var 0) .nil)) (.cons (.var 1) .nil)))) .nil)))
noncomputable def b9:Ss:=(.cons (.ifs (.cmp .eq (.var 0) (nE 1)) (.cons (.ret (.blt .list (.cons (.var 1) .nil))) .nil) .nil) (.cons (.asg (.name 2) (.bin .fdiv (.var 0) (nE 2))) (.cons (.asg (.name 3) (.call 7 (.cons (.var 2) (.cons (.var 1) .nil)))) (.cons (.ret (.bin .add (.call 9 (.cons (.var 2) (.cons (.idx (.var 3) (nE 0)) .nil))) (.comp (.list (.call 9 (.cons (.var 2) (.cons (.idx (.var 3) (nE 1)) .nil)))) [none,some 2] (.name 0) .nil (.bin .add (.var 1) (.var 0))))) .nil))))
noncomputable def b10:Ss:=(.cons (.asg (.name 2) (.idx (.bin .add (.sl (.var 0) (.cons (.var 1) .nil) (.cons (.bin .add (.var 1) (nE 1)) .nil)) (.lst (.cons (nE 0) .nil))) (nE 0))) (.cons (.asg (.name 3) (.blt .max (.cons (.var 2) (.cons (.bin .sub (.neg (nE 1)) (.var 2)) .nil)))) (.cons (.asg (.name 4) (.bin .mod (.bin .add (.bin .add (.bin .add (.bin .mod (.var 3) (nE 2147483629)) (.bin .mul (nE 7919) (.var 1))) (.bin .mul (.bin .mul (nE 104729) (.var 1)) (.var 1))) (nE 11)) (nE 2147483629))) (.cons (.ret (.lst (.cons (.var 3) (.cons (.var 4) (.cons (.cmp .ge (.var 3) (.bin .pow (nE 10) (nE 18))) .nil))))) .nil))))
noncomputable def qCi:Ss:=(.cons (.put (.var 0) (nE 1) (.bin .mod (.bin .add (.bin .mul (.idx (.var 0) (nE 1)) (nE 48271)) (nE 11)) (nE 2147483647))) (.cons (.asg (.name 3) (.bin .add (.bin .mul (.var 3) (nE 2147483587)) (.bin .mod (.bin .mul (.idx (.var 0) (nE 1)) (.idx (.var 0) (nE 1))) (nE 2147483587)))) .nil))
noncomputable def b11:Ss:=(.cons (.ifs (.idx (.var 0) (nE 2)) (.cons (.asg (.name 2) (.bin .mod (.idx (.var 0) (nE 0)) (.var 1))) (.cons (.put (.var 0) (nE 0) (.bin .fdiv (.idx (.var 0) (nE 0)) (.var 1))) (.cons (.put (.var 0) (nE 2) (.cmp .gt (.idx (.var 0) (nE 0)) (nE 0))) (.cons (.ret (.var 2)) .nil)))) .nil) (.cons (.asg (.name 3) (nE 0)) (.cons (.for_ (.name 4) (.rng1 (.bin .add (nE 1) (.blt .int (.cons (.cmp .gt (.var 1) (.bin .pow (nE 10) (nE 6))) .nil)))) qCi) (.cons (.ret (.bin .mod (.bin .fdiv (.var 3) (nE 64)) (.var 1))) .nil))))
noncomputable def b12:Ss:=(.cons (.asg (.name 2) (.call 11 (.cons (.var 0) (.cons (nE 6) .nil)))) (.cons (.ifs (.cmp .eq (.var 2) (nE 0)) (.cons (.ret (.lst .nil)) .nil) .nil) (.cons (.ifs (.cmp .eq (.var 2) (nE 1)) (.cons (.ret (.lrng (.var 1))) .nil) .nil) (.cons (.asg (.name 3) (.idx (.lst (.cons (nE 2) (.cons (nE 3) (.cons (nE 4) (.cons (nE 8) .nil))))) (.bin .sub (.var 2) (nE 2)))) (.cons (.ret (.comp (.rng1 (.var 1)) [none,some 3,some 0] (.name 0) (.cons (.cmp .eq (.call 11 (.cons (.var 2) (.cons (.var 1) .nil))) (nE 0)) .nil) (.var 0))) .nil)))))
noncomputable def y3:Ss:=(.cons (.expr (.app (.var 1) (.bin .mod (.blt .sum (.cons (.comp (.rng1 (.blt .len (.cons (.var 0) .nil))) [none,some 0,some 2] (.name 0) (.cons (.cmp .eq (.bin .band (.var 0) (.var 2)) (.var 2)) .nil) (.idx (.var 1) (.var 0))) .nil)) (nE 2)))) .nil)
noncomputable def b13:Ss:=(.cons (.asg (.name 1) (.lst .nil)) (.cons (.for_ (.name 2) (.rng1 (.blt .len (.cons (.var 0) .nil))) y3) (.cons (.ret (.var 1)) .nil)))
noncomputable def Z7:Ss:=(.cons (.asg (.name 1) (.bin .add (.comp (.list (.var 1)) [none] (.name 0) .nil (.bin .add (.var 0) (.lst (.cons (nE 0) .nil)))) (.comp (.list (.var 1)) [none] (.name 0) .nil (.bin .add (.var 0) (.lst (.cons (nE 1) .nil)))))) .nil)
noncomputable def b14:Ss:=(.cons (.asg (.name 1) (.lst (.cons (.lst .nil) .nil))) (.cons (.for_ (.name 2) (.rng1 (.var 0)) Z7) (.cons (.ret (.var 1)) .nil)))
noncomputable def O4:Ss:=(.cons (.asg (.name 5) (.comp (.rng1 (.blt .len (.cons (.var 4) .nil))) [none,some 1] (.name 0) (.cons (.cmp .notin (.var 0) (.var 1)) .nil) (.var 0))) (.cons (.ifs (.and (.cmp .inn (nE 1) (.var 3)) (.cmp .eq (.comp (.list (.var 5)) [none,some 4] (.name 0) (.cons (.cmp .eq (.idx (.var 1) (.var 0)) (nE 1)) .nil) (.var 0)) (.lst .nil))) (.cons (.expr (.app (.var 2) (.index (.var 3) (nE 1)))) .nil) .nil) .nil))
noncomputable def b15:Ss:=(.cons (.asg (.name 2) (.lst .nil)) (.cons (.for_ (.tup [3,4]) (.list (.var 0)) O4) (.cons (.ret (.sset (.var 2))) .nil)))
noncomputable def O6:Ss:=(.cons (.asg (.name 4) (.call 10 (.cons (.var 0) (.cons (.var 3) .nil)))) (.cons (.asg (.name 2) (.bin .add (nE 1) (.call 11 (.cons (.var 4) (.cons (nE 3) .nil))))) (.cons (.asg (.name 5) (.call 12 (.cons (.var 4) (.cons (.idx (.lst (.cons (nE 1) (.cons (nE 2) (.cons (nE 4) (.cons (nE 8) .nil))))) (.var 2)) .nil)))) (.cons (.asg (.name 6) (.blt .list (.cons (.var 5) .nil))) (.cons (.asg (.name 7) (.call 8 (.cons (.var 2) (.cons (.var 6) .nil)))) (.cons (.asg (.name 8) (.call 15 (.cons (.dix (.var 1) (.var 2)) (.cons (.var 5) .nil)))) (.cons (.ifs (.or (.not (.isi (.var 7) ["list"])) (.or (.cmp .ne (.var 7) (.var 8)) (.cmp .ne (.var 6) (.var 5)))) (.cons (.ret (.cst (V.bl false))) .nil) .nil) (.cons (.ifs (.cmp .ne (.comp (.list (.var 7)) [none] (.name 0) (.cons (.isi (.var 0) ["bool"]) .nil) (.var 0)) (.lst .nil)) (.cons (.ret (.cst (V.bl false))) .nil) .nil) (.cons (.expr (.app (.var 7) (nE 0))) (.cons (.ifs (.cmp .ne (.call 8 (.cons (.var 2) (.cons (.var 6) .nil))) (.var 8)) (.cons (.ret (.cst (V.bl false))) .nil) .nil) (.cons (.expr (.meth .clr (.var 6) .nil)) (.cons (.ifs (.cmp .ne (.call 8 (.cons (.var 2) (.cons (.var 6) .nil))) (.lst .nil)) (.cons (.ret (.cst (V.bl false))) .nil) .nil) .nil))))))))))))
noncomputable def qEV:Ss:=(.cons (.put (.var 1) (.var 2) (.comp (.list (.call 14 (.cons (.idx (.lst (.cons (nE 1) (.cons (nE 2) (.cons (nE 4) (.cons (nE 8) .nil))))) (.var 2)) .nil))) [none] (.name 0) .nil (.tup (.cons (.var 0) (.cons (.call 13 (.cons (.var 0) .nil)) .nil))))) .nil)
noncomputable def jo:E:=(.comp (.list (.call 14 (.cons (.idx (.lst (.cons (nE 1) (.cons (nE 2) (.cons (nE 4) (.cons (nE 8) .nil))))) (.var 2)) .nil))) [none] (.name 0) .nil (.tup (.cons (.var 0) (.cons (.call 13 (.cons (.var 0) .nil)) .nil))))
noncomputable def qFR:Ss:=(.cons (.asg (.name 1) .dnew) (.cons (.for_ (.name 2) (.list (.lst (.cons (nE 1) (.cons (nE 2) (.cons (nE 3) .nil))))) qEV) (.cons (.for_ (.name 3) (.rng1 (.blt .max (.cons (nE 1) (.cons (.blt .min (.cons (nE 24) (.cons (.blt .len (.cons (.var 0) .nil)) .nil))) .nil)))) O6) (.cons (.ret (.cst (V.bl true))) .nil))))
theorem qGR:Tb.fns[16]?=some ⟨1,9,qFR⟩:=by kernel_rfl
noncomputable def b16:Ss:=(.cons (.dlp 1 2 (.lst (.cons (nE 1) (.cons (nE 2) (.cons (nE 3) .nil)))) (.var 2) jo) (.cons (.for_ (.name 3) (.rng1 (.blt .max (.cons (nE 1) (.cons (.blt .min (.cons (nE 24) (.cons (.blt .len (.cons (.var 0) .nil)) .nil))) .nil)))) O6) (.cons (.ret (.cst (V.bl true))) .nil)))
noncomputable def Fs:List Fn:=Tb.fns.set 16 ⟨1,9,b16⟩
theorem t0:Fs[0]?=some ⟨1,1,b0⟩:=by kernel_rfl
theorem t1:Fs[1]?=some ⟨2,2,b1⟩:=by kernel_rfl
theorem t2:Fs[2]?=some ⟨2,4,b2⟩:=by kernel_rfl
theorem t3:Fs[3]?=some ⟨1,1,b3⟩:=by kernel_rfl
theorem t4:Fs[4]?=some ⟨1,1,b4⟩:=by kernel_rfl
theorem t5:Fs[5]?=some ⟨1,1,b5⟩:=by kernel_rfl
theorem t6:Fs[6]?=some ⟨2,2,b6⟩:=by kernel_rfl
theorem t7:Fs[7]?=some ⟨2,4,b7⟩:=by kernel_rfl
theorem t8:Fs[8]?=some ⟨2,2,b8⟩:=by kernel_rfl
theorem t9:Fs[9]?=some ⟨2,4,b9⟩:=by kernel_rfl
theorem t10:Fs[10]?=some ⟨2,5,b10⟩:=by kernel_rfl
theorem t11:Fs[11]?=some ⟨2,5,b11⟩:=by kernel_rfl
theorem t12:Fs[12]?=some ⟨2,4,b12⟩:=by kernel_rfl
theorem t13:Fs[13]?=some ⟨1,3,b13⟩:=by kernel_rfl
theorem t14:Fs[14]?=some ⟨1,3,b14⟩:=by kernel_rfl
theorem t15:Fs[15]?=some ⟨2,6,b15⟩:=by kernel_rfl
theorem t16:Fs[16]?=some ⟨1,9,b16⟩:=by kernel_rfl
theorem qGD(k f:Nat)(vs:List V)(h:AH):Fk Tb.fns k f vs h=Fk Fs k f vs h:=qAe (d:=⟨1,9,qFR⟩) (b:=b16) qGR (λF σ h=>qBT F _ _ _ _ _ _ σ h) k f vs h
noncomputable def Cs:List (List Nat):=List.replicate 13 []++[[1],[],[2],[4,6,7]]
theorem gl0:(glT gs)[0]?=some (.tup [N 1,N 2,N 4,N 8,N 16,N 32]):=rfl
section
variable{k:Nat}
theorem f0(hk:1<=k)(i:Nat)(M:Mem):Pk (glT gs) Fs Cs k 0 [N i] M=.ok (bT true,M):=by
 rw[qi t0 ⟨rfl,by decide⟩ hk];simp[b0,QW,qR]
theorem f1(hk:2<=k)(i e:Nat)(M:Mem):Pk (glT gs) Fs Cs k 1 [N i,N e] M=.ok (bT (decide (i<e)),M):=by
 rw[qi t1 ⟨rfl,by decide⟩ (by omega)];simp(disch:=omega) [b1,f0,qR]
theorem f3(hk:1<=k){s:Nat}(hs:s<=5)(M:Mem):Pk (glT gs) Fs Cs k 3 [N s] M=.ok ((N (2 ^ s),true),M):=by
 rw[qi t3 ⟨rfl,by decide⟩ hk];have:s=0\/s=1\/s=2\/s=3\/s=4\/s=5:=by omega
 rcases this with rfl|rfl|rfl|rfl|rfl|rfl<;>simp[b3,gl0,qR]
theorem f4(hk:2<=k){s:Nat}(h1:1<=s)(hs:s<=5)(M:Mem):Pk (glT gs) Fs Cs k 4 [N s] M=.ok (bT true,M):=by
 rw[qi t4 ⟨rfl,by decide⟩ (by omega)];simp(disch:=omega) [b4,f0,h1,hs,qR]
theorem f5(hk:3<=k){s:Nat}(h1:1<=s)(hs:s<=5)(M:Mem):Pk (glT gs) Fs Cs k 5 [N s] M=.ok ((.v .non,true),M):=by
 rw[qi t5 ⟨rfl,by decide⟩ (by omega)];simp(disch:=omega) [b5,f4,L4,h1,hs]
def Ris(lo hi:Nat):List Nat->Prop
 | []=>True
 |x::L=>lo<=x/\x<hi/\Ris (x+1) hi L
theorem f2L(hk:2<=k){M:Mem}{t:T}:∀(L:List Nat) (lo n:Nat) (o:Option T),Ris lo n L->∃σ',zN [] (.name 3) (pxs (glT gs) (Pk (glT gs) Fs Cs k) [] qB1) (L.map N) [some t,some (N n),some (N lo),o] M=.ok (.nx σ',M)
 | [],lo,n,o,_=>⟨_,rfl⟩
 |x::L,lo,n,o,⟨h1,h2,h3⟩=>by
  obtain⟨σ',e⟩:=f2L hk (M:=M) (t:=t) L (x+1) n (some (N x)) h3;refine⟨σ',?_⟩;have a2:¬ (x<lo):=by omega
  rw[<-e,List.map_cons,jK,qB1];simp(disch:=omega) [f1,h2,a2]
theorem f2(hk:3<=k){L:List Nat}{n:Nat}(h:Ris 0 n L)(M:Mem):Pk (glT gs) Fs Cs k 2 [NL L,N n] M=.ok (bT true,M):=by
 rw[qi t2 ⟨rfl,by decide⟩ (by omega)];obtain⟨σ',e⟩:=f2L (k:=k-1) (by omega) (M:=M) (t:=NL L) L 0 n none h;rw[show Cs.getD 2 []=[] from rfl];simp[b2,QW,e,qR]
noncomputable def hE(half:Nat)(L:List Nat):List Nat:=(List.range half).filter λt=>decide (t∈L)||decide (t+half∈L)
noncomputable def hB(half:Nat)(L:List Nat):List Nat:=(List.range half).filter λt=>decide (t∈L)&&decide (t+half∈L)
theorem f7(hk:1<=k){L:List Nat}{half:Nat}(hh:half<=1000)(M:Mem):Pk (glT gs) Fs Cs k 7 [N half,NL L] M=.ok ((.tup [NL (hE half L),NL (hB half L)],false),M):=by
 rw[qi t7 ⟨rfl,by decide⟩ hk];have e1:∀{P:Nat->List T->Mem->PR (TB×Mem)}{σ:TS},pei (glT gs) P (.rng1 (.var 0)) (some (N half)::σ) M=.ok (((List.range half).map N,[]),M):=λ{P σ}=>by simp(disch:=omega) [je]
 have hl:(List.range half).length<=lim:=by simp[lim];omega
 have c1:∀{P:Nat->List T->Mem->PR (TB×Mem)}{o2 o3:Option T},pe (glT gs) P (.comp (.rng1 (.var 0)) [none,some 0,some 1] (.name 0) (.cons (.or (.cmp .inn (.var 0) (.var 2)) (.cmp .inn (.bin .add (.var 0) (.var 1)) (.var 2))) .nil) (.var 0)) [some (N half),some (NL L),o2,o3] M=.ok ((NL (hE half L),true),M):=by
  intro P o2 o3;rw[pe_comp,e1,tD];dsimp only[zC];refine(zp (λt=>decide (t∈L)||decide (t+half∈L)) id hl (λx _=>?_) (λx _ _=>by simp)).trans (by rw[List.map_id];rfl);by_cases h:x∈L<;>simp[qEM,h]
 have c2:∀{P:Nat->List T->Mem->PR (TB×Mem)}{o2 o3:Option T},pe (glT gs) P (.comp (.rng1 (.var 0)) [none,some 0,some 1] (.name 0) (.cons (.and (.cmp .inn (.var 0) (.var 2)) (.cmp .inn (.bin .add (.var 0) (.var 1)) (.var 2))) .nil) (.var 0)) [some (N half),some (NL L),o2,o3] M=.ok ((NL (hB half L),true),M):=by
  intro P o2 o3;rw[pe_comp,e1,tD];dsimp only[zC];refine(zp (λt=>decide (t∈L)&&decide (t+half∈L)) id hl (λx _=>?_) (λx _ _=>by simp)).trans (by rw[List.map_id];rfl);by_cases h:x∈L<;>simp[qEM,h]
 rw[show Cs.getD 7 []=[] from rfl,b7];simp[-pe_comp,c1,c2,v8,qR,lim]
end
section
variable{k:Nat}
noncomputable def lost:Nat->List Nat->List Nat
 | 0,L=>L
 |s+1,L=>lost s (hE (2 ^ s) L)++(lost s (hB (2 ^ s) L)).map (2 ^ s + ·)
theorem p5{s:Nat}(h:s<=5):2 ^ s<=32:=wH (we (by decide) h) (by decide)
theorem jL:∀(s:Nat) (L:List Nat),(s=0->L.length<=1)->(lost s L).length<=2 ^ s
 | 0,L,h=>h rfl
 | 1,L,_=>by
  have h1:(hE 1 L).length<=1:=wH (wb _ _) (by simp);have h2:(hB 1 L).length<=1:=wH (wb _ _) (by simp);show (lost 0 (hE 1 L)++(lost 0 (hB 1 L)).map _).length<=_;rw[wW,wO];show (hE 1 L).length+(hB 1 L).length<=2;omega
 |s+2,L,_=>by
  have h1:=jL (s+1) (hE (2 ^ (s+1)) L) (λz=>by omega);have h2:=jL (s+1) (hB (2 ^ (s+1)) L) (λz=>by omega);show (lost (s+1) _++(lost (s+1) _).map _).length<=_;rw[wW,wO,wy 2 (s+1)];omega
theorem f9:∀(s:Nat){k:Nat}(hk:s+2<=k) (hs:s<=5) (L:List Nat) (hL:s=0->L.length<=1) (M:Mem),Pk (glT gs) Fs Cs k 9 [N (2 ^ s),NL L] M=.ok ((NL (lost s L),true),M)
 | 0,k,hk,hs,L,hL,M=>by
  rw[qi t9 ⟨rfl,by decide⟩ (by omega),b9];simp[qAY,qR,lost]
 |s+1,k,hk,hs,L,hL,M=>by
  have h5:=p5 (show s<=5 by omega);have hp:0<2 ^ s:=Nat.pow_pos (by decide);have hE1:s=0->(hE (2 ^ s) L).length<=1:=λz=>by subst z;exact wH (wb _ _) (by simp)
  have hB1:s=0->(hB (2 ^ s) L).length<=1:=λz=>by subst z;exact wH (wb _ _) (by simp)
  have i1:=f9 s (k:=k-1) (by omega) (by omega) (hE (2 ^ s) L) hE1;have i2:=f9 s (k:=k-1) (by omega) (by omega) (hB (2 ^ s) L) hB1;have l1:=jL s _ hE1;have l2:=jL s _ hB1;rw[qi t9 ⟨rfl,by decide⟩ (by omega),b9];have n1:¬ (2 ^ (s+1)=1):=by rw[wy];omega
  have d1:2 ^ (s+1) / 2=2 ^ s:=by rw[wy];omega
  have c1:∀{o:Option T},qU [] (.name 0) (pec (glT gs) (Pk (glT gs) Fs Cs (k-1)) .nil) (pe (glT gs) (Pk (glT gs) Fs Cs (k-1)) (.bin .add (.var 1) (.var 0))) ((lost s (hB (2 ^ s) L)).map N) [] true [o,some (N (2 ^ s))] M=.ok ((NL ((lost s (hB (2 ^ s) L)).map (2 ^ s + ·)),true),M):=λ{o}=>
   X5 (2 ^ s + ·) (by simp[lim];omega) (λx _=>by simp)
  rw[show Cs.getD 9 []=[] from rfl];simp(disch:=omega) [Zz,n1,d1,f7,i1,i2,v8,zC,c1];rw[qDI (by simp[lim];omega)];simp[qR,lost]
noncomputable def stT(a b:Nat)(c:Bool):List T:=[N a,N b,.v (.bl c)]
def qB8(M:Mem)(n:Nat):Prop:=∃a b c,M[n]?=some (stT a b c)/\b<2147483647
theorem qEb{k:Nat}(hk:1<=k){M:Mem}{n m a b:Nat}(hm:0<m/\m<=1000000)(e:M[n]?=some [N a,N b,.v (.bl true)])(e':∀y,(M.set n y)[n]?=some y):
  Pk (glT gs) Fs Cs k 11 [.cell n,N m] M=.ok ((N (a % m),true),M.set n [N (a / m),N b,.v (.bl (decide (0<a / m)))]):=by
 rw[qi t11 ⟨rfl,by decide⟩ hk,b11,show Cs.getD 11 []=[] from rfl];simp(disch:=omega) [Zd,Zz,e,e'];rw[qR (by simp)]
theorem pw6{M:Mem}:qr M .pow (N 10) (N 6)=some (N 1000000,true):=by rw[qAP (by decide)]
theorem ml1{M:Mem}(x:Nat):qr M .mul (N x) (N 48271)=some (N (x*48271),true):=Za (.inr (by decide))
theorem ml2{M:Mem}(x:Nat):qr M .mul (N x) (N 2147483587)=some (N (x*2147483587),true):=Za (.inr (by decide))
theorem qEZ{k:Nat}(hk:1<=k){M:Mem}{n m a b:Nat}(hm:0<m/\m<=1000000)(e:M[n]?=some [N a,N b,.v (.bl false)])(e':∀y,(M.set n y)[n]?=some y)(hb:b<2147483647){b':Nat}(hb':(b*48271+11) % 2147483647=b')(hq:b'<2147483647):
  Pk (glT gs) Fs Cs k 11 [.cell n,N m] M=.ok ((N ((0*2147483587+b' * b' % 2147483587) / 64 % m),true),M.set n [N a,N b',.v (.bl false)]):=by
 rw[qi t11 ⟨rfl,by decide⟩ hk,b11,show Cs.getD 11 []=[] from rfl];have hm3:¬ (1000000<m):=Nat.not_lt.mpr hm.2;have hm2:∀{M:Mem},zB M .gt (N m) (N 1000000)=some false:=λ{M}=>(QT m 1000000).trans (by rw[uF hm3]);have ml3:∀{M:Mem},qr M .mul (N b') (N b')=some (N (b' * b'),true):=λ{M}=>Za (.inl (wx hq (by decide)));have md1:∀{M:Mem}(x:Nat),qr M .mod (N x) (N 2147483647)=some (N (x % 2147483647),true):=λ{M} x=>Zd (by decide);have md2:∀{M:Mem}(x:Nat),qr M .mod (N x) (N 2147483587)=some (N (x % 2147483587),true):=λ{M} x=>Zd (by decide);have md3:∀{M:Mem}(x:Nat),qr M .mod (N x) (N m)=some (N (x % m),true):=λ{M} x=>Zd hm.1;have fd:∀{M:Mem}(x:Nat),qr M .fdiv (N x) (N 64)=some (N (x / 64),true):=λ{M} x=>Zz (by decide);have rg:qB9 (N 1)=some [N 0]:=je (by decide);simp[hb',ml1,ml2,ml3,md1,md2,md3,fd,pw6,rg,hm2,qCi,e,e'];rw[qR (by simp)]
theorem take{k:Nat}(hk:1<=k){M:Mem}{n m:Nat}(g:qB8 M n)(hm:0<m/\m<=1000000):∃d M',Pk (glT gs) Fs Cs k 11 [.cell n,N m] M=.ok ((N d,true),M')/\d<m/\qB8 M' n/\M'.length=M.length/\∀j,j≠n->M'[j]?=M[j]?:=by
 obtain⟨a,b,c,e,hb⟩:=g;have hn:n<M.length:=(wB.mp e).1;have e':∀y,(M.set n y)[n]?=some y:=λy=>wZ hn;cases c with
 |true=>exact⟨_,_,qEb hk hm e e',uC _ hm.1,⟨a / m,b,decide (0<a / m),e' _,hb⟩,by simp,λj hj=>by rw[wV (Ne.symm hj)]⟩
 |false=>
  have hq:(b*48271+11) % 2147483647<2147483647:=uC _ (by decide);exact⟨_,_,qEZ hk hm e e' hb rfl hq,uC _ hm.1,⟨a,_,false,e' _,hq⟩,by simp,λj hj=>by rw[wV (Ne.symm hj)]⟩
theorem qEd{k:Nat}(hk:1<=k)(ns:List Int){kk:Nat}(hkk:kk<=63)(M:Mem):∃a b c,Pk (glT gs) Fs Cs k 10 [.fz (ns.map λn=>.v (.int n)),N kk] M=.ok ((.lst (stT a b c),true),M)/\b<2147483647:=by
 generalize hS:ns.map (λn=>T.v (V.int n))=S;obtain⟨cl,hcl⟩:∃cl:Int,((S.drop kk).take 1++[N 0])[0]?=some (.v (.int cl)):=by
  rw[<-hS];cases h:ns.drop kk with
  |nil=>exact⟨0,by rw[<-List.map_drop,h];rfl⟩
  |cons x r=>exact⟨x,by rw[<-List.map_drop,h];rfl⟩
 obtain⟨num,hnum⟩:∃num:Nat,(if -1-cl>cl then -1-cl else cl)=(num:Int):=⟨(if -1-cl>cl then -1-cl else cl).toNat,by split<;>omega⟩
 have hl:((S.drop kk).take 1).length+[N 0].length<=lim:=by
  have:((S.drop kk).take 1).length<=1:=List.length_take_le _ _;simp[lim];omega
 have c1:∀{M:Mem},qr M .add (.lst (Q5 S (some (kk:Int)) (some ((kk:Int)+1)))) (.lst [N 0])=some (.lst ((S.drop kk).take 1++[N 0]),T.lfs ((S.drop kk).take 1++[N 0])):=λ{M}=>by
  rw[show ((kk:Int)+1)=((kk+1:Nat):Int) by omega,qBE,J2 hl];rfl
 generalize (S.drop kk).take 1++[N 0]=W at hcl c1;have mx:∀{M:Mem},QC M .max [.v (.int cl),.v (.int (-1-cl))]=some (N num,true):=λ{M}=>by rw[qAg];unfold iT;rw[hnum];rfl
 have md:∀{M:Mem}(x:Nat),qr M .mod (N x) (N 2147483629)=some (N (x % 2147483629),true):=λ{M} x=>Zd (by decide);have m1:∀{M:Mem}(x:Nat),qr M .mul (N 7919) (N x)=some (N (7919*x),true):=λ{M} x=>Za (.inl (by decide));have m2:∀{M:Mem}(x:Nat),qr M .mul (N 104729) (N x)=some (N (104729*x),true):=λ{M} x=>Za (.inl (by decide));have m3:∀{M:Mem}(x:Nat),qr M .mul (N x) (N kk)=some (N (x*kk),true):=λ{M} x=>Za (.inr (Nat.lt_of_le_of_lt hkk (by decide)));have pw:∀{M:Mem},qr M .pow (N 10) (N 18)=some (N 1000000000000000000,true):=λ{M}=>by rw[qAP (by decide)]
 refine⟨num,(num % 2147483629+7919*kk+104729*kk*kk+11) % 2147483629,decide (1000000000000000000<=num),?_,wx (uC _ (by decide)) (by decide)⟩;rw[qi t10 ⟨rfl,by decide⟩ hk,b10,show Cs.getD 10 []=[] from rfl];simp[c1,hcl,mx,md,m1,m2,m3,pw,stT,lim];rw[qR rfl]
noncomputable abbrev rf(m:Nat)(q:Nat->Bool):List Nat:=(List.range m).filter q
theorem ZX(q:Nat->Bool):∀(n lo:Nat),Ris lo (lo+n) ((List.range' lo n).filter q)
 | 0,lo=>trivial
 |n+1,lo=>by
  have ih:=ZX q n (lo+1);rw[vp];have e:lo+1+n=lo+(n+1):=by omega
  rw[e]at ih;cases h:q lo with
  |true=>rw[wo h];exact⟨wF _,by omega,ih⟩
  |false=>
   rw[vB (by rw[h];decide)];have mono:∀(L:List Nat) (a b hi:Nat),a<=b->Ris b hi L->Ris a hi L:=λL a b hi hab h=>by
    cases L with
    |nil=>trivial
    |cons x L=>exact⟨wH hab h.1,h.2.1,h.2.2⟩
   exact mono _ _ _ _ (by omega) ih
theorem qDA(m:Nat)(q:Nat->Bool):Ris 0 m (rf m q):=by
 have:=ZX q m 0;rw[Nat.zero_add]at this;unfold rf;rw[vy];exact this
structure Kept(n:Nat)(M M':Mem):Prop where
 good:qB8 M' n
 len:M'.length=M.length
 oth:∀j,j≠n->M'[j]?=M[j]?
theorem Kept.trans{n:Nat}{A B C:Mem}(x:Kept n A B)(y:Kept n B C):Kept n A C:=⟨y.good,y.len.trans x.len,λj hj=>(y.oth j hj).trans (x.oth j hj)⟩
theorem qBM{k:Nat}(hk:1<=k){M:Mem}{n m:Nat}(g:qB8 M n)(hm:0<m/\m<=1000000):∃d M',Pk (glT gs) Fs Cs k 11 [.cell n,N m] M=.ok ((N d,true),M')/\d<m/\Kept n M M':=by
 obtain⟨d,M',e,h1,h2,h3,h4⟩:=take hk g hm;exact⟨d,M',e,h1,h2,h3,h4⟩
theorem qGd{k:Nat}(hk:2<=k){M:Mem}{n m:Nat}(g:qB8 M n)(hm:m<=1000):∃q fr M',Pk (glT gs) Fs Cs k 12 [.cell n,N m] M=.ok ((NL (rf m q),fr),M')/\Kept n M M':=by
 obtain⟨w,M1,e1,hw,k1⟩:=qBM (k:=k-1) (by omega) g (m:=6) (by decide);rw[qi t12 ⟨rfl,by decide⟩ (by omega),b12,show Cs.getD 12 []=[] from rfl];have hs:w=0\/w=1\/(2<=w/\w<=5):=by omega
 rcases hs with rfl|rfl|⟨h2,h5⟩
 ·refine⟨λ_=>false,true,M1,?_,k1⟩;simp[e1,lim,NL];rw[qR k1.len,show rf m (λ_=>false)=[] by simp[rf]];rfl
 ·refine⟨λ_=>true,true,M1,?_,k1⟩;simp(disch:=omega) [e1,qA3];rw[qR k1.len,rf,QG];rfl
 ·have n0:¬ (w=0):=by omega
  have n1:¬ (w=1):=by omega
  obtain⟨bd,hb,hb0⟩:∃bd:Nat,[N 2,N 3,N 4,N 8][w-2]?=some (N bd)/\(0<bd/\bd<=1000000):=by
   have:w=2\/w=3\/w=4\/w=5:=by omega
   rcases this with rfl|rfl|rfl|rfl
   ·exact⟨2,rfl,by decide⟩
   ·exact⟨3,rfl,by decide⟩
   ·exact⟨4,rfl,by decide⟩
   ·exact⟨8,rfl,by decide⟩
  have sb:∀{M:Mem},qr M .sub (N w) (N 2)=some (N (w-2),true):=λ{M}=>qDX h2;obtain⟨q,M2,e2,i2,_⟩:=C4 (I:=Kept n M1) (R:=λ_ _=>True) (σ:=[some (N bd),some (.cell n)])
   (c:=pec (glT gs) (Pk (glT gs) Fs Cs (k-1)) (.cons (.cmp .eq (.call 11 (.cons (.var 2) (.cons (.var 1) .nil))) (nE 0)) .nil)) (e:=pe (glT gs) (Pk (glT gs) Fs Cs (k-1)) (.var 0))
   (List.range m) [] true none M1 List.nodup_range (by simp[lim];omega) ⟨k1.good,rfl,λ_ _=>rfl⟩ (λx _ M' hI=>by
    obtain⟨d,M3,e3,h3,k3⟩:=qBM (k:=k-1) (by omega) hI.good hb0;exact⟨decide (d=0),M3,by simp[e3],hI.trans k3,trivial⟩) (λx _ M' _=>by simp)
  refine⟨q,true,M2,?_,k1.trans i2⟩;simp at e2;simp(disch:=omega) [e1,n0,n1,sb,hb,lim,zC,je,-G9,e2];rw[qR (k1.trans i2).len]
end
noncomputable def lp:Nat->(Nat->Bool)->Nat->Bool
 | 0,S,p=>S p
 |s+1,S,p=>if p<2 ^ s then lp s (λt=>S t||S (t+2 ^ s)) p else lp s (λt=>S t&&S (t+2 ^ s)) (p-2 ^ s)
theorem V6(n:Nat):List.range (n+n)=List.range n++(List.range n).map (n + ·):=by
 rw[List.range_add]
theorem O9(n:Nat)(q:Nat->Bool):(List.range (n+n)).filter q=rf n q++(rf n λt=>q (n+t)).map (n + ·):=by
 rw[V6,List.filter_append,List.filter_map];rfl
theorem QY{n:Nat}{p q:Nat->Bool}(h:∀t,t<n->p t=q t):rf n p=rf n q:=List.filter_congr λt ht=>h t (wg.mp ht)
theorem mem_rf{n:Nat}{q:Nat->Bool}{t:Nat}:t∈rf n q↔t<n/\q t=true:=by
 unfold rf;rw[vG,wg]
theorem qEJ(n:Nat)(S:Nat->Bool):hE n (rf (n+n) S)=rf n λt=>S t||S (t+n):=by
 unfold hE;refine QY λt ht=>?_;have h1:decide (t∈rf (n+n) S)=S t:=by
  rw[wj,uH,mem_rf];exact⟨λz=>z.2,λz=>⟨by omega,z⟩⟩
 have h2:decide (t+n∈rf (n+n) S)=S (t+n):=by
  rw[wj,uH,mem_rf];exact⟨λz=>z.2,λz=>⟨by omega,z⟩⟩
 rw[h1,h2]
theorem qEF(n:Nat)(S:Nat->Bool):hB n (rf (n+n) S)=rf n λt=>S t&&S (t+n):=by
 unfold hB;refine QY λt ht=>?_;have h1:decide (t∈rf (n+n) S)=S t:=by
  rw[wj,uH,mem_rf];exact⟨λz=>z.2,λz=>⟨by omega,z⟩⟩
 have h2:decide (t+n∈rf (n+n) S)=S (t+n):=by
  rw[wj,uH,mem_rf];exact⟨λz=>z.2,λz=>⟨by omega,z⟩⟩
 rw[h1,h2]
theorem p2(s:Nat):2 ^ (s+1)=2 ^ s+2 ^ s:=by rw[wy];omega
theorem JO:∀(s:Nat) (S:Nat->Bool),lost s (rf (2 ^ s) S)=rf (2 ^ s) (lp s S)
 | 0,S=>rfl
 |s+1,S=>by
  show lost s (hE (2 ^ s) (rf (2 ^ (s+1)) S))++(lost s (hB (2 ^ s) (rf (2 ^ (s+1)) S))).map (2 ^ s + ·)=_;rw[p2,qEJ,qEF,JO s,JO s];show _=(List.range (2 ^ s+2 ^ s)).filter _;rw[O9];congr 1
  ·refine QY λt ht=>?_;show _=if t<2 ^ s then _ else _
   rw[if_pos ht]
  ·congr 1;refine QY λt ht=>?_;show _=if 2 ^ s+t<2 ^ s then _ else _
   rw[if_neg (by omega),wn]
end _M
namespace _M
open PySem PySem.Spec _P
open _L (V)
open GF (lp rch JS wd)
section
variable{k:Nat}
noncomputable def xr(x y:Nat):Nat:=(x+y) % 2
noncomputable def wrd:Nat->List Nat->List Nat
 | 0,L=>L
 |s+1,L=>List.zipWith xr (wrd s (L.take (2 ^ s))) (wrd s (L.drop (2 ^ s)))++wrd s (L.drop (2 ^ s))
theorem JP:∀(s:Nat) (L:List Nat),L.length=2 ^ s->(wrd s L).length=2 ^ s
 | 0,L,h=>h
 |s+1,L,h=>by
  have h':L.length=2 ^ s+2 ^ s:=by rw[h,wy];omega
  have l1:=JP s (L.take (2 ^ s)) (by rw[vI];omega);have l2:=JP s (L.drop (2 ^ s)) (by rw[vJ];omega);show (List.zipWith xr _ _++wrd s _).length=_;rw[wW,vg,l1,l2,wy];omega
noncomputable def cB(L:List Nat)(q:Nat):Bool:=decide (L.getD q 0=1)
theorem qBc{L:List Nat}{m q:Nat}(h:q<m):cB (L.take m) q=cB L q:=by
 unfold cB;rw[wJ,wJ,wu h]
theorem qBw{L:List Nat}{m q:Nat}:cB (L.drop m) q=cB L (m+q):=by
 unfold cB;rw[wJ,wJ,vY]
theorem qF2(a b:Bool):xr a.toNat b.toNat=(a ^^ b).toNat:=by cases a<;>cases b<;>rfl
theorem f8:∀{s:Nat},s<=5->∀{L:List Nat},L.length=2 ^ s->(∀x∈L,x<2)->∀{t:Nat},t<2 ^ s->(wrd s L).getD t 0=(wd s (cB L) t).toNat
 | 0,_,L,hl,hb,t,ht=>by
  have:t=0:=by omega
  subst this
  match L,hl with
  | [x],_=>
   have:=hb x (by simp);rcases(by omega:x=0\/x=1) with rfl|rfl<;>rfl
 |s+1,h5,L,hl,hb,t,ht=>by
  have p2:=GF.pw s;have l1:(L.take (2 ^ s)).length=2 ^ s:=by rw[vI];omega
  have l2:(L.drop (2 ^ s)).length=2 ^ s:=by rw[vJ];omega
  have w1:=JP s _ l1;have w2:=JP s _ l2;have i1:=λ{t} (h:t<2 ^ s)=>f8 (s:=s) (by omega) l1 (λx hx=>hb x (List.mem_of_mem_take hx)) (t:=t) h;have i2:=λ{t} (h:t<2 ^ s)=>f8 (s:=s) (by omega) l2 (λx hx=>hb x (List.mem_of_mem_drop hx)) (t:=t) h;have c1:=λ{t} (h:t<2 ^ s)=>GF.wd_congr s (cB (L.take (2 ^ s))) (cB L) t (λq hq=>qBc hq) h;have c2:=λ{t} (h:t<2 ^ s)=>GF.wd_congr s (cB (L.drop (2 ^ s))) (λq=>cB L (2 ^ s+q)) t (λq _=>qBw) h;show (List.zipWith xr _ _++wrd s _).getD t 0=_;rw[GF.wd];have lz:(List.zipWith xr (wrd s (L.take (2 ^ s))) (wrd s (L.drop (2 ^ s)))).length=2 ^ s:=by rw[vg,w1,w2];omega
  by_cases h:t<2 ^ s
  ·rw[if_pos h,<-c1 h,<-c2 h,<-qF2,<-i1 h,<-i2 h];rw[wJ,wC (by omega),List.getElem?_zipWith,getD_some (by omega),getD_some (by omega)];rfl
  ·rw[if_neg h,<-c2 (by omega),<-i2 (by omega),wJ,wR (by omega),lz,<-wJ]
noncomputable def W(L:List Nat)(t:Nat):Nat:=(((List.range L.length).filter λp=>decide (p&&& t=t)).map λp=>L.getD p 0).sum % 2
theorem qFc{M:Mem}{t:T}{L:List Nat}(h:∀Y,IsL (M++Y) t L)(hl:L.length<=1000){P:Nat->List T->Mem->PR (TB×Mem)}:∀(m i:Nat) (ys:List Nat) (o:Option T),ys.length+m<=2000->∃σ',zN [] (.name 2) (pxs (glT gs) P [1] y3) ((List.range' i m).map N) [some t,some (.cell M.length),o] (M++[ys.map N])=.ok (.nx [some t,some (.cell M.length),σ'],M++[(ys++(List.range' i m).map (W L)).map N])
 | 0,i,ys,o,hy=>⟨o,by simp⟩
 |m+1,i,ys,o,hy=>by
  obtain⟨σ',e⟩:=qFc h hl (P:=P) m (i+1) (ys++[W L i]) (some (N i)) (by simp;omega);refine⟨σ',?_⟩;have hI:=h [ys.map N];have c:=zp (c:=pec (glT gs) P (.cons (.cmp .eq (.bin .band (.var 0) (.var 2)) (.var 2)) .nil)) (e:=pe (glT gs) P (.idx (.var 1) (.var 0))) (M:=M++[ys.map N]) (σ:=[some t,some (N i)]) (o:=none) (its:=List.range L.length) (λp=>decide (p&&& i=i)) (λp=>L.getD p 0) (by simp[lim];omega) (λx _=>by simp[qA0]) (λx hx _=>by
   have hx:=wg.mp hx;have:=hI.idx (i:=x) (x:=L.getD x 0) (by rw[wJ,wD hx];rfl);simp[this])
  have sm:=(IsL.nl (M++[ys.map N]) (((List.range L.length).filter λp=>decide (p&&& i=i)).map λp=>L.getD p 0)).sum;have hw:(((List.range L.length).filter λp=>decide (p&&& i=i)).map λp=>L.getD p 0).sum % 2=W L i:=rfl;generalize (((List.range L.length).filter λp=>decide (p&&& i=i)).map λp=>L.getD p 0)=vs at c sm hw;have md:∀{M:Mem}(x:Nat),qr M .mod (N x) (N 2)=some (N (x % 2),true):=λ{M} x=>Zd (by decide);have g0:(M++[ys.map N])[M.length]?=some (ys.map N):=by simp
  have s0:(M++[ys.map N]).set M.length (ys.map N++[N (W L i)])=M++[(ys++[W L i]).map N]:=by
   rw[vo _ _ (wF _)];simp
  have ap:i7 (M++[ys.map N]) M.length (N (W L i))=some (M++[(ys++[W L i]).map N]):=by
   rw[qAv g0 (by simp[lim];omega),s0]
  rw[vp,List.map_cons,jK,st2];have body:pxs (glT gs) P [1] y3 [some t,some (.cell M.length),some (N i)] (M++[ys.map N])=.ok (.nx [some t,some (.cell M.length),some (N i)],M++[(ys++[W L i]).map N]):=by
   rw[y3];simp(disch:=omega) [hI.len,je,-G9,c,sm,md,hw,ap]
  rw[body,tD];dsimp only;rw[e];simp
theorem f13(hk:1<=k){M:Mem}(hM:FlatM M){t:T}{L:List Nat}(h:∀Y,IsL (M++Y) t L)(hl:L.length<=1000):Pk (glT gs) Fs Cs k 13 [t] M=.ok ((NL ((List.range L.length).map (W L)),true),M):=by
 rw[qi t13 ⟨rfl,by decide⟩ hk,b13,show Cs.getD 13 []=[1] from rfl];obtain⟨σ',e⟩:=qFc h hl (P:=Pk (glT gs) Fs Cs (k-1)) L.length 0 [] none (by simp;omega);rw[<-vy,List.nil_append,List.map_nil]at e;have hI:=(h [[]]).len;have th:thaw M.length (.lst [])=(.cell M.length,[[]]):=by simp[thaw,jy]
 simp(disch:=omega) [lim,th,hI,je,e];have:=V9 hM ((List.range L.length).map (W L)) false;rw[vL]at this;exact this
noncomputable def h9(n:Nat)(c:Nat->Bool)(f:Nat->Nat):Nat:=(((List.range n).filter c).map f).sum
theorem L5(n:Nat)(c:Nat->Bool)(f:Nat->Nat):h9 (n+n) c f=h9 n c f+h9 n (λp=>c (n+p)) (λp=>f (n+p)):=by
 unfold h9;rw[List.range_add,List.filter_append,List.filter_map,vH,vL,List.sum_append];rfl
theorem ju{n:Nat}{c c':Nat->Bool}{f f':Nat->Nat}(hc:∀p,p<n->c p=c' p)(hf:∀p,p<n->f p=f' p):h9 n c f=h9 n c' f':=by
 unfold h9;rw[List.filter_congr (q:=c') λp hp=>hc p (wg.mp hp)];congr 1;exact List.map_congr_left λp hp=>hf p (wg.mp (vG.mp hp).1)
theorem Q9{n:Nat}{c:Nat->Bool}{f:Nat->Nat}(hc:∀p,p<n->c p=false):h9 n c f=0:=by
 unfold h9;rw[vZ.mpr λp hp=>by rw[hc p (wg.mp hp)];decide];rfl
theorem Z4(L:List Nat)(t:Nat):W L t=h9 L.length (λp=>decide (p&&& t=t)) (λp=>L.getD p 0) % 2:=rfl
theorem qGF:∀s,s<5->∀p,p<2 ^ s->∀t,t<2 ^ s->(2 ^ s+p)&&& t=p&&& t:=by decide +kernel
theorem qF8:∀s,s<5->∀p,p<2 ^ s->∀t,t<2 ^ s->(2 ^ s+p)&&& (2 ^ s+t)=2 ^ s+(p&&& t):=by decide +kernel
theorem Z5{L:List Nat}{n p:Nat}(h:p<n):L.getD p 0=(L.take n).getD p 0:=by
 rw[wJ,wJ,wu h]
theorem B4{L:List Nat}{n p:Nat}:L.getD (n+p) 0=(L.drop n).getD p 0:=by
 rw[wJ,wJ,vY]
theorem qBZ:∀(s:Nat) (L:List Nat),s<=5->L.length=2 ^ s->(∀x∈L,x<2)->wrd s L=(List.range (2 ^ s)).map (W L)
 | 0,L,hs,hl,hb=>by
  match L,hl with
  | [x],_=>
   have hx:x<2:=hb x (wN ..);have:W [x] 0=x:=by
    show (([x].map λp=>p).sum % 2)=x;simp;omega
   show [x]=[W [x] 0];rw[this]
 |s+1,L,hs,hl,hb=>by
  have hl':L.length=2 ^ s+2 ^ s:=by rw[hl,wy];omega
  have la:(L.take (2 ^ s)).length=2 ^ s:=by rw[vI];omega
  have lb:(L.drop (2 ^ s)).length=2 ^ s:=by rw[vJ];omega
  have ia:=qBZ s (L.take (2 ^ s)) (by omega) la λx hx=>hb x (List.mem_of_mem_take hx);have ib:=qBZ s (L.drop (2 ^ s)) (by omega) lb λx hx=>hb x (List.mem_of_mem_drop hx);show List.zipWith xr (wrd s (L.take (2 ^ s))) (wrd s (L.drop (2 ^ s)))++wrd s (L.drop (2 ^ s))=_;rw[ia,ib,show (2:Nat) ^ (s+1)=2 ^ s+2 ^ s by rw[wy];omega,List.range_add,vH,vL];have w1:∀t,t<2 ^ s->W L t=xr (W (L.take (2 ^ s)) t) (W (L.drop (2 ^ s)) t):=λt ht=>by
   rw[Z4,Z4,Z4,hl',la,lb,L5];unfold xr;rw[<-Nat.add_mod];congr 2
   ·exact ju (λp _=>rfl) λp hp=>Z5 hp
   ·exact ju (λp hp=>by rw[qGF s (by omega) p hp t ht]) λp _=>B4
  have w2:∀t,t<2 ^ s->W L (2 ^ s+t)=W (L.drop (2 ^ s)) t:=λt ht=>by
   rw[Z4,Z4,hl',lb,L5,Q9 (λp hp=>uF λe=>by
    have:=Nat.and_le_left (n:=p) (m:=2 ^ s+t);omega),Nat.zero_add]
   congr 1;exact ju (λp hp=>by
    rw[qF8 s (by omega) p hp t ht];congr 1;rw[eq_iff_iff];omega) λp _=>B4
  congr 1
  ·rw[List.zipWith_map_left,List.zipWith_map_right,List.zipWith_self];exact List.map_congr_left λt ht=>(w1 t (wg.mp ht)).symm
  ·exact List.map_congr_left λt ht=>(w2 t (wg.mp ht)).symm
theorem Jq{M:Mem}{t:T}{L:List Nat}(h:IsL M t L)(n:Nat):zB M .notin (N n) t=some (!decide (n∈L)):=by
 have a:zB M .notin (N n) t=zB M .notin (N n) (NL L):=by
  have d1:t.dct=none:=by
   cases t with
   |ob o=>have:=h.its;cases this
   |_=>rfl
  show (inT M (N n) t).map _=(inT M (N n) (NL L)).map _;unfold inT;rw[d1,show (NL L).dct=none from rfl,h.its];rfl
 rw[a,qA8]
theorem qDK{M:Mem}(A:List Nat)(x:Nat)(h:A.length<=1000):qr M .add (NL A) (.lst [N x])=some (NL (A++[x]),true):=by
 show qr M .add (.lst (A.map N)) (.lst ([x].map N))=_;rw[J2 (by rw[wO];show A.length+1<=lim;exact wH (Nat.succ_le_succ h) (by decide))];unfold lT;rw[<-vH,r6];rfl
noncomputable def qV:Nat->List (List Nat)
 | 0=>[[]]
 |m+1=>(qV m).map (·++[0])++(qV m).map (·++[1])
theorem zQ:∀(m:Nat) (L:List Nat),L∈qV m↔L.length=m/\∀x∈L,x<2
 | 0,L=>by
  show L∈[[]]↔_;rw[wY];exact⟨λe=>by subst e;exact⟨rfl,λx hx=>by simp at hx⟩,λh=>wc.mp h.1⟩
 |m+1,L=>by
  show L∈(qV m).map (·++[0])++(qV m).map (·++[1])↔_;rw[wL,vN,vN];constructor
  ·rintro(⟨K,hK,rfl⟩|⟨K,hK,rfl⟩)
   all_goals
    obtain⟨a,b⟩:=(zQ m K).mp hK;refine⟨by simp[a],λx hx=>?_⟩;rcases wL.mp hx with h|h
    ·exact b x h
    ·simp at h;omega
  ·rintro⟨a,b⟩;obtain⟨K,x,rfl⟩:∃K x,L=K++[x]:=by
    have hL:L≠[]:=by intro e;subst e;simp at a
    exact⟨L.dropLast,L.getLast hL,(vb hL).symm⟩
   have hK:K∈qV m:=(zQ m K).mpr ⟨by simpa using a,λy hy=>b y (by simp[hy])⟩;have hx:=b x (by simp);have:x=0\/x=1:=by omega
   rcases this with rfl|rfl
   ·exact .inl ⟨K,hK,rfl⟩
   ·exact .inr ⟨K,hK,rfl⟩
theorem jp:∀m,(qV m).length=2 ^ m
 | 0=>rfl
 |m+1=>by
  show ((qV m).map _++(qV m).map _).length=_;rw[wW,wO,wO,jp m,wy];omega
theorem F0{P:Nat->List T->Mem->PR (TB×Mem)}{M:Mem}(x:Nat):∀(Ls:List (List Nat)) (ys:List T) (f:Bool) (o:Option T),(∀L∈Ls,L.length<=1000)->ys.length+Ls.length<=2000->qU [] (.name 0) (pec (glT gs) P .nil) (pe (glT gs) P (.bin .add (.var 0) (.lst (.cons (nE x) .nil)))) (Ls.map NL) ys f [o] M=.ok ((.lst (ys++Ls.map λL=>NL (L++[x])),f),M)
 | [],ys,f,o,_,_=>by simp[qU]
 |L::Ls,ys,f,o,h,hl=>by
  have ih:=F0 (P:=P) (M:=M) x Ls (ys++[NL (L++[x])]) f (some (NL L)) (λK hK=>h K (by simp[hK])) (by simp at hl ⊢;omega);have ad:∀{M:Mem},qr M .add (NL L) (.lst [N x])=some (NL (L++[x]),true):=λ{M}=>qDK L x (h L (by simp));rw[List.map_cons];unfold qU;have e:pe (glT gs) P (.bin .add (.var 0) (.lst (.cons (nE x) .nil))) [some (NL L)] M=.ok ((NL (L++[x]),true),M):=by
   repeat' first|with_reducible (first|exact ad|exact jr|exact O7|exact jx|exact ll1|apply zP|apply QV|apply QP)
  show PR.bind (pec (glT gs) P .nil [some (NL L)] M) _=_;rw[show pec (glT gs) P .nil [some (NL L)] M=.ok (true,M) from rfl,tD];dsimp only;rw[if_pos rfl,show ([o].set 0 (some (NL L)):TS)=[some (NL L)] from rfl,e,tD];dsimp only;rw[if_pos ⟨wG (show ys.length<2001 by simp at hl;omega) (by decide),rfl⟩,vT,ih];simp
end
end _M
namespace _M
open PySem PySem.Spec _P
open _L (V)
open GF (lp rch JS wd)
section
variable{k:Nat}
theorem Qt{m:Nat}{L:List Nat}(h:L∈qV m):L.length=m:=((zQ m L).mp h).1
theorem qDd{P:Nat->List T->Mem->PR (TB×Mem)}{M:Mem}{m:Nat}(hm:m<=8){n0 t:T}:pxs (glT gs) P [] Z7 [some n0,some (.lst ((qV m).map NL)),some t] M=.ok (.nx [some n0,some (.lst ((qV (m+1)).map NL)),some t],M):=by
 have p8:2 ^ m<=256:=wH (we (by decide) hm) (by decide);have ln:=jp m;have c0:=F0 (P:=P) (M:=M) 0 (qV m) [] true none (λL hL=>by rw[Qt hL];omega) (by simp[ln];omega);have c1:=F0 (P:=P) (M:=M) 1 (qV m) [] true none (λL hL=>by rw[Qt hL];omega) (by simp[ln];omega);rw[List.nil_append]at c0 c1;have h1:JU M (.lst ((qV m).map NL))=some ((qV m).map NL,[]):=rfl;have ad:∀{M:Mem},qr M .add (.lst ((qV m).map λL=>NL (L++[0]))) (.lst ((qV m).map λL=>NL (L++[1])))=some (lT ((qV (m+1)).map NL)):=λ{M}=>by
  rw[J2 (by rw[wO,wO,ln];exact wH (show 2 ^ m+2 ^ m<=512 by omega) (by decide))];congr 2;show _=((qV m).map (·++[0])++(qV m).map (·++[1])).map NL;rw[vH,vL,vL];rfl
 have ad:∀{M:Mem},qr M .add (.lst ((qV m).map λL=>NL (L++[0]))) (.lst ((qV m).map λL=>NL (L++[1])))=some (.lst ((qV (m+1)).map NL),T.lfs ((qV (m+1)).map NL)):=ad;rw[Z7]
 repeat' first|with_reducible (first|exact h1|exact ad|exact jr|exact Qm|exact ZT|exact O7|exact Y8|exact Qs|exact Qi|exact jx|exact ZE|exact isT|exact isF|exact ll0|exact ll1|exact ll2|exact ll3|exact ll4|exact jB|exact jC|exact jQ|exact zg .. | exact Qf .. | exact ZC .. | exact QT .. | exact ZK .. | exact QH .. | exact Qr .. | assumption|apply zP|apply za|apply Ql|apply QV|apply Qx|apply ZL|apply QP|apply QR|apply jA|apply Qo|apply ZF|apply g6|apply Qw|apply Qv|apply zw|apply V3|apply zq|apply ZO|apply cT|apply cF|apply t_1|apply t_2|apply t_0|apply t_3|apply f_0|apply f_1|apply C5|apply c7|apply zx|apply ZI|apply ZR|apply zn|apply Qu|apply Y0|apply R7|apply S6)|((with_reducible apply ZQ);exact cN rfl)|((with_reducible apply zr);exact rfl)|((with_reducible apply zA);exact rfl)|assumption|exact c0|exact c1|rfl
theorem qAN{P:Nat->List T->Mem->PR (TB×Mem)}{M:Mem}{n0:T}:∀(its:List T) (m:Nat) (o:Option T),m+its.length<=8->∃o',zN [] (.name 2) (pxs (glT gs) P [] Z7) its [some n0,some (.lst ((qV m).map NL)),o] M=.ok (.nx [some n0,some (.lst ((qV (m+its.length)).map NL)),o'],M)
 | [],m,o,_=>⟨o,rfl⟩
 |t::its,m,o,h=>by
  obtain⟨o',e⟩:=qAN (P:=P) (M:=M) (n0:=n0) its (m+1) (some t) (by simp at h;omega);refine⟨o',?_⟩;rw[jK];show PR.bind (pxs (glT gs) P [] Z7 [some n0,some (.lst ((qV m).map NL)),some t] M) _=_;rw[qDd (by simp at h;omega),tD];rw[show m+(t::its).length=m+1+its.length by simp;omega];exact e
theorem f14(hk:1<=k){m:Nat}(hm:m<=8)(M:Mem):Pk (glT gs) Fs Cs k 14 [N m] M=.ok ((.lst ((qV m).map NL),false),M):=by
 obtain⟨o',e⟩:=qAN (P:=Pk (glT gs) Fs Cs (k-1)) (M:=M) (n0:=N m) ((List.range m).map N) 0 none (by simp;omega);have rg:=je (n:=m) (by omega);rw[show 0+((List.range m).map N).length=m by simp]at e;have z:pxs (glT gs) (Pk (glT gs) Fs Cs (k-1)) [] b14 [some (N m),none,none] M=.ok (.rt (.lst ((qV m).map NL),false),M):=by
  rw[b14]
  repeat' first|with_reducible (first|exact rg|exact jr|exact Qm|exact ZT|exact O7|exact Y8|exact Qs|exact Qi|exact jx|exact ZE|exact isT|exact isF|exact ll0|exact ll1|exact ll2|exact ll3|exact ll4|exact jB|exact jC|exact jQ|exact zg .. | exact Qf .. | exact ZC .. | exact QT .. | exact ZK .. | exact QH .. | exact Qr .. | assumption|apply zP|apply za|apply Ql|apply QV|apply Qx|apply ZL|apply QP|apply QR|apply jA|apply Qo|apply ZF|apply g6|apply Qw|apply Qv|apply zw|apply V3|apply zq|apply ZO|apply cT|apply cF|apply t_1|apply t_2|apply t_0|apply t_3|apply f_0|apply f_1|apply c7|apply zx|apply ZI|apply ZR|apply zn|apply Qu|apply Ja|apply Y0|apply R7|apply S6)|((with_reducible apply ZQ);exact cN rfl)|((with_reducible apply zr);exact rfl)|((with_reducible apply zA);exact rfl)|assumption|exact e|rfl
 exact X3 t14 ⟨rfl,by decide⟩ (hk) rfl rfl z (qR rfl)
end
end _M
namespace _M
open PySem PySem.Spec _P
open _L (V)
open GF (JS wd par Cb)
theorem jW(p:Nat):∀n,par n (λq=>decide (q=p))=decide (p<n)
 | 0=>by simp[par]
 |n+1=>by
  show (par n (λq=>decide (q=p)) ^^ decide (n=p))=_;rw[jW p n];by_cases h:p<n
  ·rw[uG h,uF (show ¬ n=p by omega),uG (show p<n+1 by omega)];rfl
  ·by_cases e:n=p
   ·rw[uF h,uG e,uG (show p<n+1 by omega)];rfl
   ·rw[uF h,uF e,uF (show ¬ p<n+1 by omega)];rfl
theorem qCX{s:Nat}{S c:Nat->Bool}(hc:∀t,t<2 ^ s->S t=false->wd s c t=false){g:Nat->Bool}(k:Cb s S g):par (2 ^ s) (λq=>c q&&g q)=false:=by
 induction k with
 |zero=>rw[GF.par_congr _ _ (λ_=>false) (λq _=>by rw[vD])];exact GF.par_false _
 |add ht hS k ih=>
  rename_i t g;rw[GF.par_congr _ _ (λq=>(c q&&GF.rch q t) ^^ (c q&&g q)) (λq _=>by dsimp only;cases c q<;>cases GF.rch q t<;>cases g q<;>rfl),GF.par_xor,ih,<-GF.wd_par s c t ht,hc t ht hS];rfl
theorem a9{s p:Nat}{S c:Nat->Bool}(hp:p<2 ^ s)(c1:∀q,q<p->c q=false)(c2:c p=true)(hc:∀t,t<2 ^ s->S t=false->wd s c t=false):GF.lp s S p=true:=by
 cases h:GF.lp s S p with
 |true=>rfl
 |false=>
  obtain⟨g,k,hg⟩:=GF.told s S p hp h;have z:=qCX hc k;rw[GF.par_congr _ _ (λq=>decide (q=p)) (λq hq=>by
   by_cases a:q<p
   ·rw[c1 q a,uF (by omega)];rfl
   ·rw[hg q (by omega) hq];by_cases e:q=p
    ·subst e;rw[c2];rfl
    ·rw[uF e,vD]),jW,uG hp]at z
  cases z
noncomputable def Opn(s:Nat)(S:Nat->Bool)(L:List Nat):Bool:=decide (1∈L)&&decide (∀t,t<2 ^ s->S t=false->W L t≠1)
theorem qE9{s:Nat}(hs:s<=5){L:List Nat}(hl:L.length=2 ^ s)(hb:∀x∈L,x<2){t:Nat}(ht:t<2 ^ s):W L t=(wd s (cB L) t).toNat:=by
 rw[<-f8 hs hl hb ht,qBZ s L hs hl hb,wJ,wl,vh ht];rfl
theorem J4{L:List Nat}(h:1∈L):L.idxOf 1<L.length/\cB L (L.idxOf 1)=true/\∀q,q<L.idxOf 1->cB L q=false:=by
 have hi:=List.idxOf_lt_length_of_mem h;refine⟨hi,?_,λq hq=>?_⟩
 ·unfold cB;rw[wJ,wD hi,Option.getD_some,List.getElem_idxOf];rfl
 ·unfold cB;rw[wJ,wD (by omega),Option.getD_some];refine uF λe=>?_;have:=List.not_of_lt_findIdx (p:=(·==1)) (xs:=L) hq;rw[e]at this;cases this
theorem v5:∀(s:Nat) (S:Nat->Bool) (p:Nat),lp s S p=GF.lp s S p
 | 0,_,_=>rfl
 |s+1,S,p=>by
  show (if p<2 ^ s then lp s _ p else lp s _ (p-2 ^ s))=(if p<2 ^ s then GF.lp s _ p else GF.lp s _ (p-2 ^ s));rw[v5 s,v5 s]
theorem u4{s:Nat}(hs:s<=5){S:Nat->Bool}{L:List Nat}(hl:L.length=2 ^ s)(hb:∀x∈L,x<2)(h:Opn s S L=true):L.idxOf 1<2 ^ s/\lp s S (L.idxOf 1)=true:=by
 unfold Opn at h;rw[wE,uH,uH]at h;obtain⟨i1,i2,i3⟩:=J4 h.1;rw[hl]at i1;refine⟨i1,?_⟩;rw[v5];refine a9 i1 i3 i2 λt ht hS=>?_;have:=h.2 t ht hS;rw[qE9 hs hl hb ht]at this;cases q:wd s (cB L) t with
 |false=>rfl
 |true=>rw[q]at this;exact absurd rfl this
theorem qC1{s p:Nat}(hs:s<=5){S:Nat->Bool}(hp:p<2 ^ s)(h:lp s S p=true):∃L∈qV (2 ^ s),Opn s S L=true/\L.idxOf 1=p:=by
 rw[v5]at h;obtain⟨c,c1,c2,c3⟩:=GF.open_ s S p hp h;obtain⟨L,hL⟩:∃L,L=(List.range (2 ^ s)).map λq=>(c q).toNat:=⟨_,rfl⟩
 have hl:L.length=2 ^ s:=by rw[hL];simp
 have gL:∀q,q<2 ^ s->L[q]?=some (c q).toNat:=λq hq=>by rw[hL,wl,vh hq];rfl
 have hb:∀x∈L,x<2:=λx hx=>by
  rw[hL]at hx;obtain⟨q,_,rfl⟩:=vN.mp hx;exact Bool.toNat_lt _
 have hc:∀q,q<2 ^ s->cB L q=c q:=λq hq=>by
  unfold cB;rw[wJ,gL q hq,Option.getD_some];cases c q<;>rfl
 have h1:1∈L:=by
  have:=gL p hp;rw[c2]at this;exact wS this
 obtain⟨i1,i2,i3⟩:=J4 h1;rw[hl]at i1;have hi:L.idxOf 1=p:=by
  rcases Nat.lt_trichotomy (L.idxOf 1) p with z|z|z
  ·rw[hc _ i1,c1 _ z]at i2;cases i2
  ·exact z
  ·have:=i3 p z;rw[hc p hp,c2]at this;cases this
 refine⟨L,(zQ _ L).mpr ⟨hl,hb⟩,?_,hi⟩;unfold Opn;rw[wE,uH,uH];refine⟨h1,λt ht hS=>?_⟩;rw[qE9 hs hl hb ht,GF.wd_congr s (cB L) c t hc ht,c3 t ht hS];decide
end _M
namespace _M
open PySem PySem.Spec _P
open _L (V)
open GF (JS wd par Cb)
theorem U0:∀P:List Nat,qz (P.map N)=some (P.map λ(n:Nat)=>V.int (n:Int))
 | []=>rfl
 |x::r=>by
  rw[List.map_cons];show (qz (r.map N)).map _=_;rw[U0 r];rfl
theorem QN:∀(P:List Nat) (v:Nat),v∈P->(P.map λ(n:Nat)=>V.int (n:Int)).findIdx? (λz=>_L.eqV z (.int (v:Int)))=some (P.idxOf v)
 | [],v,h=>by cases h
 |x::r,v,h=>by
  rw[List.map_cons,List.findIdx?_cons,List.idxOf_cons];show (if ((x:Int)==(v:Int))=true then some 0 else _)=_;by_cases e:x=v
  ·subst e;simp
  ·have e':((x:Int)==(v:Int))=false:=by simpa using (by omega:¬ (x:Int)=(v:Int))
   rw[e',if_neg (by decide),QN r v (by rcases wP.mp h with z|z;exact absurd z.symm e;exact z)];rw[show (x==v)=false from by simpa using e];rfl
theorem Jr{M:Mem}{t:T}{L:List Nat}(h:IsL M t L)(n:Nat):zB M .inn (N n) t=some (decide (n∈L)):=by
 have:=Jq h n;have e:zB M .notin (N n) t=(zB M .inn (N n) t).map (!·):=rfl;rw[e]at this;cases hh:zB M .inn (N n) t with
 |none=>rw[hh]at this;cases this
 |some b=>
  rw[hh]at this;simp at this;rw[this]
theorem eqL{M:Mem}(A B:List Nat):zB M .eq (NL A) (NL B)=some (decide (A=B)):=(IsL.nl M A).ceq (IsL.nl M B)
theorem Q8{M:Mem}{t:T}{L:List Nat}(h:IsL M t L){v:Nat}(hv:v∈L):ZY false M t (N v)=some (N (L.idxOf v),true):=by
 show ((some (V.int (v:Int))).bind λa=>((t.sel false M).bind λts=>(qz ts).bind λxs=>(xs.findIdx? λz=>_L.eqV z a).map λ(j:Nat)=>iT (j:Int)))=_;rw[Option.bind_some,show t.sel false M=t.lis M from rfl,h.lis,Option.bind_some,U0,Option.bind_some,QN L v hv];rfl
noncomputable abbrev ws(L:List Nat):List Nat:=(List.range L.length).map (W L)
noncomputable def pw(L:List Nat):T:=.tup [NL L,NL (ws L)]
theorem qBj{gl:List T}{P:Nat->List T->Mem->PR (TB×Mem)}{σ:TS}{M:Mem}{i n:Nat}{t:T}{fa:Bool}{us:List T}{r:TB}(h:pe gl P (.var i) σ M=.ok ((t,fa),M))(hs:t.sel false M=some us)(hr:ZY false M t (N n)=some r):pe gl P (.index (.var i) (nE n)) σ M=.ok (r,M):=by
 rw[u6,h,tD];dsimp only;rw[show (E.var i).isGlob=false from rfl,hs,PR.ofO_some,tD,O7,tD];dsimp only;rw[hr];rfl
section
variable{k:Nat}
theorem qCD{s:Nat}{S:Nat->Bool}{L:List Nat}:Opn s S L=(decide (1∈L)&&decide (((List.range (2 ^ s)).filter λt=>!decide (t∈rf (2 ^ s) S)).filter (λt=>decide (W L t=1))=[])):=by
 unfold Opn;congr 1;rw[wj,uH,uH,vZ];constructor
 ·intro h t ht;obtain⟨a,b⟩:=vG.mp ht;have a:=wg.mp a;have hS:S t=false:=by
   cases q:S t with
   |false=>rfl
   |true=>rw[uG (mem_rf.mpr ⟨a,q⟩)]at b;cases b
  simpa using h t a hS
 ·intro h t ht hS e;refine h t (vG.mpr ⟨wg.mpr ht,?_⟩) (uG e);rw[uF (λz=>by have:=(mem_rf.mp z).2;rw[hS]at this;cases this)];rfl
theorem qA7{P:Nat->List T->Mem->PR (TB×Mem)}{M:Mem}{s:Nat}(hs:s<=3){S:Nat->Bool}{t0:T}:∀(Ls:List (List Nat)) (ys:List Nat) (o3 o4 o5:Option T),(∀L∈Ls,L.length=2 ^ s)->ys.length+Ls.length<=2000->∃p3 p4 p5,zN [] (.tup [3,4]) (pxs (glT gs) P [2] O4) (Ls.map pw) [some t0,some (NL (rf (2 ^ s) S)),some (.cell M.length),o3,o4,o5] (M++[ys.map N])=.ok (.nx [some t0,some (NL (rf (2 ^ s) S)),some (.cell M.length),p3,p4,p5],M++[(ys++(Ls.filter (Opn s S)).map λL=>L.idxOf 1).map N])
 | [],ys,o3,o4,o5,_,_=>⟨o3,o4,o5,by simp[zN]⟩
 |L::Ls,ys,o3,o4,o5,h,hy=>by
  have n8:2 ^ s<=8:=wH (we (by decide) hs) (by decide);have hl:=h L (by simp);obtain⟨K,hK⟩:∃K,K=(List.range (2 ^ s)).filter λt=>!decide (t∈rf (2 ^ s) S):=⟨_,rfl⟩
  have lK:K.length<=2 ^ s:=by rw[hK];exact wH (wb _ _) (by simp)
  have mK:∀t∈K,t<2 ^ s:=λt ht=>by rw[hK]at ht;exact wg.mp (vG.mp ht).1
  have c1:=zp (c:=pec (glT gs) P (.cons (.cmp .notin (.var 0) (.var 1)) .nil)) (e:=pe (glT gs) P (.var 0)) (M:=M++[ys.map N]) (σ:=[some (NL (rf (2 ^ s) S))]) (o:=none) (its:=List.range (2 ^ s)) (λt=>!decide (t∈rf (2 ^ s) S)) (λx=>x) (by simp[lim];omega) (λx _=>by
   have a:=Jq (IsL.nl (M++[ys.map N]) (rf (2 ^ s) S)) x;generalize NL (rf (2 ^ s) S)=tS at *;generalize decide (x∈rf (2 ^ s) S)=b at *;simp[a]) (λx _ _=>by simp)
  rw[List.map_id',<-hK]at c1;have c2:=zp (c:=pec (glT gs) P (.cons (.cmp .eq (.idx (.var 1) (.var 0)) (nE 1)) .nil)) (e:=pe (glT gs) P (.var 0)) (M:=M++[ys.map N]) (σ:=[some (NL (ws L))]) (o:=none) (its:=K) (λt=>decide (W L t=1)) (λx=>x) (by simp[lim];omega) (λx hx=>by
   have ix:=(IsL.nl (M++[ys.map N]) (ws L)).idx (i:=x) (x:=W L x) (by rw[wl,hl,vh (mK x hx)];rfl);have eq:∀{M:Mem},zB M .eq (N (W L x)) (N 1)=some (decide (W L x=1)):=λ{M}=>QH _ _;generalize NL (ws L)=tW at *;generalize N (W L x)=nW at *;simp[ix,eq]) (λx _ _=>by simp)
  rw[List.map_id']at c2;have oe:Opn s S L=(decide (1∈L)&&decide (K.filter (λt=>decide (W L t=1))=[])):=by rw[qCD,hK]
  obtain⟨F,hF⟩:∃F,F=K.filter λt=>decide (W L t=1):=⟨_,rfl⟩
  rw[<-hF]at c2 oe;have ln:∀{M:Mem},QC M .len [NL (ws L)]=some (N (2 ^ s),true):=λ{M}=>by rw[(IsL.nl M (ws L)).len];simp[hl]
  have rg:=je (n:=2 ^ s) (by omega);have sK:JU (M++[ys.map N]) (NL K)=some (K.map N,[]):=rfl;have i1:=Jr (IsL.nl (M++[ys.map N]) L) 1;have q:zB (M++[ys.map N]) .eq (NL F) (.lst [])=some (decide (F=[])):=eqL F [];have body:∀z,(if Opn s S L=true then ys++[L.idxOf 1] else ys)=z->pxs (glT gs) P [2] O4 [some t0,some (NL (rf (2 ^ s) S)),some (.cell M.length),some (NL L),some (NL (ws L)),o5] (M++[ys.map N])=.ok (.nx [some t0,some (NL (rf (2 ^ s) S)),some (.cell M.length),some (NL L),some (NL (ws L)),some (NL K)],M++[z.map N]):=by
   intro z hz;rw[oe]at hz;rw[O4];by_cases h1:1∈L
   ·rw[uG h1]at i1 hz;by_cases h2:F=[]
    ·rw[uG h2]at q hz;have hz:ys++[L.idxOf 1]=z:=hz;have ix:ZY false (M++[ys.map N]) (NL L) (N 1)=some (N (L.idxOf 1),true):=Q8 (IsL.nl (M++[ys.map N]) L) h1;have se:(NL L).sel false (M++[ys.map N])=some (L.map N):=rfl;have g0:(M++[ys.map N])[M.length]?=some (ys.map N):=by simp
     have ap:i7 (M++[ys.map N]) M.length (N (L.idxOf 1))=some (M++[z.map N]):=by
      rw[qAv g0 (by rw[wO];exact wG (show ys.length<2001 by simp at hy;omega) (by decide)),vo _ _ (wF _),<-hz];simp
     repeat' first|with_reducible (first|exact ln|exact rg|exact sK|exact i1|exact q|exact ix|exact se|exact ap|exact jr|exact Qm|exact ZT|exact B0|exact P0|exact P5|exact O7|exact Y8|exact Qs|exact Qi|exact jx|exact ZE|exact isT|exact isF|exact ll0|exact ll1|exact ll2|exact ll3|exact ll4|exact jB|exact jC|exact jQ|exact QM|exact Zc|exact Zm|exact zg .. | exact Qf .. | exact ZC .. | exact QT .. | exact ZK .. | exact QH .. | exact Qr .. | assumption|apply zP|apply za|apply Ql|apply QV|apply Qx|apply ZL|apply QP|apply QR|apply jA|apply Qo|apply ZF|apply g6|apply Qw|apply Qv|apply zw|apply V3|apply zq|apply ZO|apply cT|apply cF|apply t_1|apply t_2|apply t_0|apply t_3|apply f_0|apply f_1|apply C5|apply c7|apply zx|apply ZI|apply ZR|apply zn|apply Qu|apply qBj|apply Y0|apply R7|apply S6)|((with_reducible apply ZQ);exact cN rfl)|((with_reducible apply zr);exact rfl)|((with_reducible apply zA);exact rfl)|assumption|exact c1|exact c2|rfl
    ·rw[uF h2]at q hz;have hz:ys=z:=hz;subst hz
     repeat' first|with_reducible (first|exact ln|exact rg|exact sK|exact i1|exact q|exact jr|exact Qm|exact ZT|exact B0|exact P0|exact P5|exact O7|exact Y8|exact Qs|exact Qi|exact jx|exact ZE|exact isT|exact isF|exact ll0|exact ll1|exact ll2|exact ll3|exact ll4|exact jB|exact jC|exact jQ|exact QM|exact Zc|exact Zm|exact zg .. | exact Qf .. | exact ZC .. | exact QT .. | exact ZK .. | exact QH .. | exact Qr .. | assumption|apply zP|apply za|apply Ql|apply QV|apply Qx|apply ZL|apply QP|apply QR|apply jA|apply Qo|apply ZF|apply g6|apply Qw|apply Qv|apply zw|apply V3|apply zq|apply ZO|apply cT|apply cF|apply t_1|apply t_2|apply t_0|apply t_3|apply f_0|apply f_1|apply C5|apply c7|apply zx|apply ZI|apply ZR|apply zn|apply Qu|apply Y0|apply R7|apply S6)|((with_reducible apply ZQ);exact cN rfl)|((with_reducible apply zr);exact rfl)|((with_reducible apply zA);exact rfl)|assumption|exact c1|exact c2|rfl
   ·rw[uF h1]at i1 hz;have hz:ys=z:=hz;subst hz
    repeat' first|with_reducible (first|exact ln|exact rg|exact sK|exact i1|exact jr|exact Qm|exact ZT|exact B0|exact P0|exact P5|exact O7|exact Y8|exact Qs|exact Qi|exact jx|exact ZE|exact isT|exact isF|exact ll0|exact ll1|exact ll2|exact ll3|exact ll4|exact jB|exact jC|exact jQ|exact QM|exact Zc|exact Zm|exact zg .. | exact Qf .. | exact ZC .. | exact QT .. | exact ZK .. | exact QH .. | exact Qr .. | assumption|apply zP|apply za|apply Ql|apply QV|apply Qx|apply ZL|apply QP|apply QR|apply jA|apply Qo|apply ZF|apply g6|apply Qw|apply Qv|apply zw|apply V3|apply zq|apply ZO|apply cT|apply cF|apply t_1|apply t_2|apply t_0|apply t_3|apply f_0|apply f_1|apply C5|apply c7|apply zx|apply ZI|apply ZR|apply zn|apply Qu|apply Y0|apply R7|apply S6)|((with_reducible apply ZQ);exact cN rfl)|((with_reducible apply zr);exact rfl)|((with_reducible apply zA);exact rfl)|assumption|exact c1|rfl
  rw[List.map_cons];cases ho:Opn s S L with
  |true=>
   obtain⟨p3,p4,p5,e⟩:=qA7 (P:=P) (M:=M) hs (S:=S) (t0:=t0) Ls (ys++[L.idxOf 1]) (some (NL L)) (some (NL (ws L))) (some (NL K)) (λJ hJ=>h J (by simp[hJ])) (by simp at hy ⊢;omega);refine⟨p3,p4,p5,?_⟩;have b:=body _ rfl;rw[if_pos ho]at b;rw[wo ho];show PR.bind (pxs (glT gs) P [2] O4 [some t0,some (NL (rf (2 ^ s) S)),some (.cell M.length),some (NL L),some (NL (ws L)),o5] (M++[ys.map N])) _=_;rw[b,tD];show zN [] _ _ (Ls.map pw) _ _=_;rw[e];simp
  |false=>
   obtain⟨p3,p4,p5,e⟩:=qA7 (P:=P) (M:=M) hs (S:=S) (t0:=t0) Ls ys (some (NL L)) (some (NL (ws L))) (some (NL K)) (λJ hJ=>h J (by simp[hJ])) (by simp at hy ⊢;omega);refine⟨p3,p4,p5,?_⟩;have b:=body _ rfl;rw[if_neg (by rw[ho];decide)]at b;rw[vB (by rw[ho];decide)];show PR.bind (pxs (glT gs) P [2] O4 [some t0,some (NL (rf (2 ^ s) S)),some (.cell M.length),some (NL L),some (NL (ws L)),o5] (M++[ys.map N])) _=_;rw[b,tD];exact e
end
end _M
namespace _M
open PySem PySem.Spec _P
open _L (V)
open GF (JS wd par Cb)
theorem qAC{α:Type}[DecidableEq α]{l m:List α}(hl:l.Nodup)(hm:m.Nodup)(h:∀x,x∈l↔x∈m):l.Perm m:=by
 rcases Nat.le_total m.length l.length with z|z
 ·exact(jU hl (λx hx=>(h x).mp hx) z).symm
 ·exact jU hm (λx hx=>(h x).mpr hx) z
theorem qBv(X:List Nat)(m:Nat)(q:Nat->Bool)(h:∀p,p∈X↔p<m/\q p=true):QJ (uniq (X.map λ(x:Nat)=>(x:Int)))=(rf m q).map (λ(x:Nat)=>(x:Int)):=by
 have nd:((rf m q).map λ(x:Nat)=>(x:Int)).Nodup:=by
  rw[List.nodup_iff_pairwise_ne,vk];refine List.Pairwise.imp (λh=>?_) (List.Pairwise.filter q vX);omega
 have le:((rf m q).map λ(x:Nat)=>(x:Int)).Pairwise (·<=·):=by
  rw[vk];refine List.Pairwise.imp (λh=>?_) (List.Pairwise.filter q vX);omega
 have pm:(uniq (X.map λ(x:Nat)=>(x:Int))).Perm ((rf m q).map λ(x:Nat)=>(x:Int)):=by
  refine qAC (Zp _) nd λi=>?_;rw[k6,vN,vN];constructor
  ·rintro⟨p,hp,rfl⟩;exact⟨p,mem_rf.mpr ((h p).mp hp),rfl⟩
  ·rintro⟨p,hp,rfl⟩;exact⟨p,(h p).mpr (mem_rf.mp hp),rfl⟩
 exact Zu (JT _) le ((zR _).trans pm)
theorem qCj{gl:List T}{P:Nat->List T->Mem->PR (TB×Mem)}{σ:TS}{M M1:Mem}{a:E}{t:T}{fa:Bool}{us:List T}{is:List Int}{r:TB}(h:pe gl P a σ M=.ok ((t,fa),M1))(hl:t.lis M1=some us)(hi:qW us=some is)(h6:is.length<1000/\(uniq is).length<64)(hr:((.lst ((QJ (uniq is)).map λi=>T.v (.int i)),true):TB)=r):pe gl P (.sset a) σ M=.ok (r,M1):=by
 rw[qB3,h,tD];dsimp only;rw[hl,Option.bind_some,hi];show (if is.length<1000/\(uniq is).length<64 then _ else _)=_;rw[if_pos h6,hr]
theorem W8{M:Mem}(h:FlatM M)(c:List T)(R:List Nat):Js M.length (.ok (.rt (NL R,true),M++[c]))=.ok ((NL R,true),M):=by
 show _P.finish M.length _ _=_;unfold _P.finish;rw[if_neg (by rw[wW];simp),List.take_left' rfl,if_pos (h.all _)];have r:qM (M++[c]) M.length 6 (NL R)=some (NL R):=by
  unfold qM;rw[if_pos (by show T.unds _ (R.map N)=true;exact g8 _ R)]
 dsimp only;rw[r];rfl
section
variable{k:Nat}
theorem f15(hk:1<=k){s:Nat}(hs:s<=3)(S:Nat->Bool){M:Mem}(hM:FlatM M):Pk (glT gs) Fs Cs k 15 [.lst ((qV (2 ^ s)).map pw),NL (rf (2 ^ s) S)] M=.ok ((NL (rf (2 ^ s) (lp s S)),true),M):=by
 have n8:2 ^ s<=8:=wH (we (by decide) hs) (by decide);have l8:(qV (2 ^ s)).length<=256:=by rw[jp];exact wH (we (by decide) n8) (by decide)
 obtain⟨p3,p4,p5,e⟩:=qA7 (P:=Pk (glT gs) Fs Cs (k-1)) (M:=M) hs (S:=S) (t0:=.lst ((qV (2 ^ s)).map pw)) (qV (2 ^ s)) [] none none none (λL hL=>((zQ _ L).mp hL).1) (by simp;omega);rw[List.nil_append,List.map_nil]at e;obtain⟨X,hX⟩:∃X,X=((qV (2 ^ s)).filter (Opn s S)).map λL=>L.idxOf 1:=⟨_,rfl⟩
 rw[<-hX]at e;have mX:∀p,p∈X↔p<2 ^ s/\lp s S p=true:=λp=>by
  rw[hX,vN];constructor
  ·rintro⟨L,hL,rfl⟩;obtain⟨a,b⟩:=vG.mp hL;obtain⟨c,d⟩:=(zQ _ L).mp a;exact u4 (by omega) c d b
  ·rintro⟨a,b⟩;obtain⟨L,h1,h2,h3⟩:=qC1 (by omega) a b;exact⟨L,vG.mpr ⟨h1,h2⟩,h3⟩
 have st:=qBv X (2 ^ s) (lp s S) mX;have lX:X.length<=256:=by rw[hX,wO];exact wH (wb _ _) l8
 have lu:(uniq (X.map λ(x:Nat)=>(x:Int))).length<=8:=by
  rw[<-(zR _).length_eq,st,wO];exact wH (wb _ _) (by simpa using n8)
 have hi:=qAI X;have h6:(X.map λ(x:Nat)=>(x:Int)).length<1000/\(uniq (X.map λ(x:Nat)=>(x:Int))).length<64:=by rw[wO];omega
 have hr:((.lst ((QJ (uniq (X.map λ(x:Nat)=>(x:Int)))).map λi=>T.v (.int i)),true):TB)=(NL (rf (2 ^ s) (lp s S)),true):=by
  rw[st,vL];rfl
 have hl:(T.cell M.length).lis (M++[X.map N])=some (X.map N):=by
  show (M++[X.map N])[M.length]?=_;simp
 have th:thaw M.length (.lst [])=(.cell M.length,[[]]):=by simp[thaw,jy]
 have sc:JU (M++[[]]) (.lst ((qV (2 ^ s)).map pw))=some ((qV (2 ^ s)).map pw,[]):=rfl;have z:pxs (glT gs) (Pk (glT gs) Fs Cs (k-1)) [2] b15 [some (.lst ((qV (2 ^ s)).map pw)),some (NL (rf (2 ^ s) S)),none,none,none,none] M=.ok (.rt (NL (rf (2 ^ s) (lp s S)),true),M++[X.map N]):=by
  rw[b15]
  repeat' first|with_reducible (first|exact th|exact sc|exact e|exact hl|exact hi|exact h6|exact hr|exact jr|exact Qm|exact ZT|exact B0|exact P0|exact P5|exact O7|exact Y8|exact Qs|exact Qi|exact jx|exact ZE|exact isT|exact isF|exact ll0|exact ll1|exact ll2|exact ll3|exact ll4|exact jB|exact jC|exact jQ|exact QM|exact Zc|exact Zm|exact zg .. | exact Qf .. | exact ZC .. | exact QT .. | exact ZK .. | exact QH .. | exact Qr .. | assumption|apply zP|apply za|apply Ql|apply QV|apply Qx|apply ZL|apply QP|apply QR|apply jA|apply Qo|apply ZF|apply g6|apply Qw|apply Qv|apply zw|apply V3|apply zq|apply ZO|apply cT|apply cF|apply t_1|apply t_2|apply t_0|apply t_3|apply f_0|apply f_1|apply c7|apply zx|apply ZI|apply ZR|apply zn|apply Qu|apply Ja|apply qCj|apply Y0|apply R7|apply S6)|((with_reducible apply ZQ);exact cN rfl)|((with_reducible apply zr);exact rfl)|((with_reducible apply zA);exact rfl)|assumption|rfl
 exact X3 t15 ⟨rfl,by decide⟩ (hk) rfl rfl z (W8 hM _ _)
end
end _M
namespace _M
open PySem PySem.Spec _P
open _L (V)
open GF (JS wd par Cb)
section
variable{k:Nat}
theorem qFk(hk:2<=k){M:Mem}{t:T}{d:jq}(hd:qY d M=true):∀(L:List Nat) (lo n:Nat) (o:Option T),Ris lo n L->∃σ',zN d (.name 3) (pxs (glT gs) (Pk (glT gs) Fs Cs k) [] qB1) (L.map N) [some t,some (N n),some (N lo),o] M=.ok (.nx σ',M)
 | [],lo,n,o,_=>⟨_,rfl⟩
 |x::L,lo,n,o,⟨h1,h2,h3⟩=>by
  obtain⟨σ',e⟩:=qFk hk (M:=M) (t:=t) hd L (x+1) n (some (N x)) h3;refine⟨σ',?_⟩;have a2:¬ (x<lo):=by omega
  have b:pxs (glT gs) (Pk (glT gs) Fs Cs k) [] qB1 [some t,some (N n),some (N lo),some (N x)] M=.ok (.nx [some t,some (N n),some (N (x+1)),some (N x)],M):=by
   rw[qB1];simp(disch:=omega) [f1,h2,a2]
  show PR.bind (pxs (glT gs) (Pk (glT gs) Fs Cs k) [] qB1 [some t,some (N n),some (N lo),some (N x)] M) _=_;rw[b,tD];show (if qY d M=true then _ else _)=_;rw[if_pos hd];exact e
theorem f2t(hk:3<=k){M:Mem}{t:T}{L:List Nat}(hI:IsL M t L){n:Nat}(h:Ris 0 n L):Pk (glT gs) Fs Cs k 2 [t,N n] M=.ok (bT true,M):=by
 obtain⟨d,s1,s2,hd⟩:=hI.src;obtain⟨σ',e⟩:=qFk (k:=k-1) (by omega) (M:=M) (t:=t) hd L 0 n none h;have ty:=hI.ty;have z:pxs (glT gs) (Pk (glT gs) Fs Cs (k-1)) [] b2 [some t,some (N n),none,none] M=.ok (.rt (bT true),M):=by
  rw[b2]
  repeat' first|with_reducible (first|exact ty|exact s1|exact e|exact jr|exact Qm|exact ZT|exact B0|exact O7|exact Y8|exact Qs|exact Qi|exact jx|exact ZE|exact isT|exact isF|exact ll0|exact ll1|exact ll2|exact ll3|exact ll4|exact jB|exact jC|exact jQ|exact QM|exact zg .. | exact Qf .. | exact ZC .. | exact QT .. | exact ZK .. | exact QH .. | exact Qr .. | assumption|apply zP|apply za|apply Ql|apply QV|apply Qx|apply ZL|apply QP|apply QR|apply jA|apply Qo|apply ZF|apply g6|apply Qw|apply Qv|apply zw|apply V3|apply zq|apply ZO|apply cT|apply cF|apply t_1|apply t_2|apply t_0|apply t_3|apply f_0|apply f_1|apply c7|apply zx|apply ZI|apply ZR|apply zn|apply Qu|apply Ja|apply qCp|apply Y0|apply R7|apply S6)|((with_reducible apply ZQ);exact cN rfl)|((with_reducible apply zr);exact rfl)|((with_reducible apply zA);exact rfl)|assumption|exact nF rfl|exact nT rfl|rfl
 exact X3 t2 ⟨rfl,by decide⟩ (by omega) rfl rfl z (qR rfl)
theorem f6t(hk:4<=k){M:Mem}{t:T}{L:List Nat}(hI:IsL M t L){s:Nat}(hs:s<=5)(h:Ris 0 (2 ^ s) L):Pk (glT gs) Fs Cs k 6 [N s,t] M=.ok ((.v .non,true),M):=by
 rw[qi t6 ⟨rfl,by decide⟩ (by omega)];have e:=f2t (k:=k-1) (by omega) hI h;simp(disch:=omega) [b6,f3,hs,e,L4]
theorem f7t(hk:1<=k){M:Mem}{t:T}{L:List Nat}(hI:IsL M t L){half:Nat}(hh:half<=1000):Pk (glT gs) Fs Cs k 7 [N half,t] M=.ok ((.tup [NL (hE half L),NL (hB half L)],false),M):=by
 have rg:=je (n:=half) (by omega);have c1:=zp (c:=pec (glT gs) (Pk (glT gs) Fs Cs (k-1)) (.cons (.or (.cmp .inn (.var 0) (.var 2)) (.cmp .inn (.bin .add (.var 0) (.var 1)) (.var 2))) .nil)) (e:=pe (glT gs) (Pk (glT gs) Fs Cs (k-1)) (.var 0)) (M:=M) (σ:=[some (N half),some t]) (o:=none) (its:=List.range half) (λx=>decide (x∈L)||decide (x+half∈L)) (λx=>x) (by simp[lim];omega) (λx _=>by
  have a:=Jr hI x;have b:=Jr hI (x+half);cases h:decide (x∈L)<;>rw[h]at a<;>simp[a,b]) (λx _ _=>by simp)
 have c2:=zp (c:=pec (glT gs) (Pk (glT gs) Fs Cs (k-1)) (.cons (.and (.cmp .inn (.var 0) (.var 2)) (.cmp .inn (.bin .add (.var 0) (.var 1)) (.var 2))) .nil)) (e:=pe (glT gs) (Pk (glT gs) Fs Cs (k-1)) (.var 0)) (M:=M) (σ:=[some (N half),some t]) (o:=none) (its:=List.range half) (λx=>decide (x∈L)&&decide (x+half∈L)) (λx=>x) (by simp[lim];omega) (λx _=>by
  have a:=Jr hI x;have b:=Jr hI (x+half);cases h:decide (x∈L)<;>rw[h]at a<;>simp[a,b]) (λx _ _=>by simp)
 rw[List.map_id']at c1 c2;have c1:qU _ _ _ _ _ _ _ _ _=.ok ((NL (hE half L),true),M):=c1;have c2:qU _ _ _ _ _ _ _ _ _=.ok ((NL (hB half L),true),M):=c2;have l1:=v8 (hE half L);have z:pxs (glT gs) (Pk (glT gs) Fs Cs (k-1)) [] b7 [some (N half),some t,none,none] M=.ok (.rt (.tup [NL (hE half L),NL (hB half L)],false),M):=by
  rw[b7]
  repeat' first|with_reducible (first|exact rg|exact jr|exact Qm|exact ZT|exact B0|exact O7|exact Y8|exact Qs|exact Qi|exact jx|exact ZE|exact isT|exact isF|exact ll0|exact ll1|exact ll2|exact ll3|exact ll4|exact jB|exact jC|exact jQ|exact QM|exact zg .. | exact Qf .. | exact ZC .. | exact QT .. | exact ZK .. | exact QH .. | exact Qr .. | assumption|apply zP|apply za|apply Ql|apply QV|apply Qx|apply ZL|apply QP|apply QR|apply jA|apply Qo|apply ZF|apply g6|apply Qw|apply Qv|apply zw|apply V3|apply zq|apply ZO|apply cT|apply cF|apply t_1|apply t_2|apply t_0|apply t_3|apply f_0|apply f_1|apply c7|apply zx|apply ZI|apply ZR|apply zn|apply Qu|apply Ja|apply Y0|apply R7|apply S6)|((with_reducible apply ZQ);exact cN rfl)|((with_reducible apply zr);exact rfl)|((with_reducible apply zA);exact rfl)|assumption|exact c1|exact c2|exact congrArg (Prod.mk _) (by rw[l1];rfl)
 exact X3 t7 ⟨rfl,by decide⟩ (hk) rfl rfl z (qR rfl)
theorem f9t{s:Nat}{k:Nat}(hk:s+3<=k)(hs:s+1<=5){M:Mem}{t:T}{L:List Nat}(hI:IsL M t L):Pk (glT gs) Fs Cs k 9 [N (2 ^ (s+1)),t] M=.ok ((NL (lost (s+1) L),true),M):=by
 have e7:=f7t (k:=k-1) (by omega) hI (half:=2 ^ s) (by have:=p5 (show s<=5 by omega);omega);have h5:=p5 (show s<=5 by omega);have hp:0<2 ^ s:=Nat.pow_pos (by decide);have hE1:s=0->(hE (2 ^ s) L).length<=1:=λz=>by subst z;exact wH (wb _ _) (by simp)
 have hB1:s=0->(hB (2 ^ s) L).length<=1:=λz=>by subst z;exact wH (wb _ _) (by simp)
 have i1:=f9 s (k:=k-1) (by omega) (by omega) (hE (2 ^ s) L) hE1;have i2:=f9 s (k:=k-1) (by omega) (by omega) (hB (2 ^ s) L) hB1;have l1:=jL s _ hE1;have l2:=jL s _ hB1;rw[qi t9 ⟨rfl,by decide⟩ (by omega),b9];have n1:¬ (2 ^ (s+1)=1):=by rw[wy];omega
 have d1:2 ^ (s+1) / 2=2 ^ s:=by rw[wy];omega
 have c1:∀{o:Option T},qU [] (.name 0) (pec (glT gs) (Pk (glT gs) Fs Cs (k-1)) .nil) (pe (glT gs) (Pk (glT gs) Fs Cs (k-1)) (.bin .add (.var 1) (.var 0))) ((lost s (hB (2 ^ s) L)).map N) [] true [o,some (N (2 ^ s))] M=.ok ((NL ((lost s (hB (2 ^ s) L)).map (2 ^ s + ·)),true),M):=λ{o}=>
  X5 (2 ^ s + ·) (by simp[lim];omega) (λx _=>by simp)
 rw[show Cs.getD 9 []=[] from rfl];simp(disch:=omega) [Zz,n1,d1,e7,i1,i2,v8,zC,c1];rw[qDI (by simp[lim];omega)];simp[qR,lost]
theorem f8t(hk:8<=k){M:Mem}{t:T}{L:List Nat}(hI:IsL M t L){s:Nat}(h1:1<=s)(hs:s<=5)(h:Ris 0 (2 ^ s) L):Pk (glT gs) Fs Cs k 8 [N s,t] M=.ok ((NL (lost s L),true),M):=by
 obtain⟨r,rfl⟩:∃r,s=r+1:=⟨s-1,by omega⟩
 have e9:=f9t (k:=k-1) (by omega) hs hI (s:=r);have e6:=f6t (k:=k-1) (by omega) hI hs h;have e5:=f5 (k:=k-1) (by omega) h1 hs M;have e3:=f3 (k:=k-1) (by omega) hs M;have z:pxs (glT gs) (Pk (glT gs) Fs Cs (k-1)) [] b8 [some (N (r+1)),some t] M=.ok (.rt (NL (lost (r+1) L),true),M):=by
  rw[b8]
  repeat' first|with_reducible (first|exact e9|exact e6|exact e5|exact e3|exact jr|exact Qm|exact O7|exact Y8|exact Qs|exact Qi|exact jx|exact ZE|exact isT|exact isF|exact ll0|exact ll1|exact ll2|exact ll3|exact ll4|exact jB|exact jC|exact zg .. | exact Qf .. | exact ZC .. | exact QT .. | exact ZK .. | exact QH .. | exact Qr .. | assumption|apply zP|apply za|apply Ql|apply QV|apply Qx|apply ZL|apply QP|apply QR|apply jA|apply Qo|apply ZF|apply g6|apply Qw|apply Qv|apply zw|apply V3|apply zq|apply ZO|apply cT|apply cF|apply t_1|apply t_2|apply t_0|apply t_3|apply f_0|apply f_1|apply c7|apply zx|apply ZI|apply ZR|apply zn|apply Qu|apply Ja|apply Y0|apply R7|apply S6)|((with_reducible apply ZQ);exact cN rfl)|((with_reducible apply zr);exact rfl)|((with_reducible apply zA);exact rfl)|assumption|rfl
 exact X3 t8 ⟨rfl,by decide⟩ (by omega) rfl rfl z (qR rfl)
end
end _M
namespace _M
open PySem PySem.Spec _P
open _L (V)
open GF (JS wd par Cb)
section
variable{k:Nat}
theorem qFo{s:Nat}(hs:s<=3):[N 1,N 2,N 4,N 8][s]?=some (N (2 ^ s)):=by
 have:s=0\/s=1\/s=2\/s=3:=by omega
 rcases this with rfl|rfl|rfl|rfl<;>rfl
theorem R9(hk:1<=k){M:Mem}(hM:FlatM M):∀(Ls:List (List Nat)) (ys:List T) (f:Bool) (o:Option T),(∀L∈Ls,L.length<=1000)->ys.length+Ls.length<=2000->∃f',qU [] (.name 0) (pec (glT gs) (Pk (glT gs) Fs Cs k) .nil) (pe (glT gs) (Pk (glT gs) Fs Cs k) (.tup (.cons (.var 0) (.cons (.call 13 (.cons (.var 0) .nil)) .nil)))) (Ls.map NL) ys f [o] M=.ok ((.lst (ys++Ls.map pw),f'),M)
 | [],ys,f,o,_,_=>⟨f,by simp[qU]⟩
 |L::Ls,ys,f,o,h,hl=>by
  have e13:=f13 (k:=k) hk hM (λY=>IsL.nl (M++Y) L) (h L (by simp));obtain⟨f',ih⟩:=R9 hk hM Ls (ys++[pw L]) (f&&((NL L).lf&&(true&&true))) (some (NL L)) (λK hK=>h K (by simp[hK])) (by simp at hl ⊢;omega);refine⟨f',?_⟩;have e:pe (glT gs) (Pk (glT gs) Fs Cs k) (.tup (.cons (.var 0) (.cons (.call 13 (.cons (.var 0) .nil)) .nil))) [some (NL L)] M=.ok ((pw L,(NL L).lf&&(true&&true)),M):=by
   unfold pw ws
   repeat' first|with_reducible (first|exact e13|exact jr|exact jx|exact ll2|apply QR|apply zP|apply za)
  rw[List.map_cons];unfold qU;show PR.bind (pec (glT gs) (Pk (glT gs) Fs Cs k) .nil [some (NL L)] M) _=_;rw[show pec (glT gs) (Pk (glT gs) Fs Cs k) .nil [some (NL L)] M=.ok (true,M) from rfl,tD];dsimp only;rw[if_pos rfl,show ([o].set 0 (some (NL L)):TS)=[some (NL L)] from rfl,e,tD];dsimp only;rw[if_pos ⟨wG (show ys.length<2001 by simp at hl;omega) (by decide),rfl⟩,ih];simp
noncomputable abbrev row(s:Nat):T:=.lst ((qV (2 ^ s)).map pw)
theorem qBA(hk:2<=k){M:Mem}(hM:FlatM M){s:Nat}(hs:s<=3){x0:T}{o1 o3 o4 o5 o6 o7 o8:Option T}:∃f,pe (glT gs) (Pk (glT gs) Fs Cs k) jo [some x0,o1,some (N s),o3,o4,o5,o6,o7,o8] M=.ok ((row s,f),M):=by
 have n8:2 ^ s<=8:=wH (we (by decide) hs) (by decide);have l8:(qV (2 ^ s)).length<=256:=by rw[jp];exact wH (we (by decide) n8) (by decide)
 obtain⟨f,c⟩:=R9 (k:=k) (by omega) hM (qV (2 ^ s)) [] true none (λL hL=>by rw[Qt hL];omega) (by simp;omega);rw[List.nil_append]at c;have e14:=f14 (k:=k) (by omega) n8 M;have ix:Jd M (.lst [N 1,N 2,N 4,N 8]) (N s)=some (N (2 ^ s),true):=by rw[ZW,qFo hs];rfl
 have sc:JU M (.lst ((qV (2 ^ s)).map NL))=some ((qV (2 ^ s)).map NL,[]):=rfl;refine⟨f,?_⟩;unfold jo
 repeat' first|with_reducible (first|exact e14|exact ix|exact sc|exact jr|exact Qm|exact ZT|exact B0|exact P0|exact P5|exact qDh|exact qCU|exact qDD|exact O7|exact Y8|exact Qs|exact Qi|exact jx|exact ZE|exact isT|exact isF|exact ll0|exact ll1|exact ll2|exact ll3|exact ll4|exact jB|exact jC|exact jQ|exact QM|exact Zc|exact Zm|exact qAp|exact qAh|exact qAT|exact zg .. | exact Qf .. | exact ZC .. | exact QT .. | exact ZK .. | exact QH .. | exact Qr .. | assumption|apply zP|apply za|apply Ql|apply QV|apply Qx|apply ZL|apply QP|apply QR|apply jA|apply Qo|apply ZF|apply g6|apply Qw|apply Qv|apply zw|apply V3|apply zq|apply ZO|apply cT|apply cF|apply t_1|apply t_2|apply t_0|apply t_3|apply f_0|apply f_1|apply C5|apply c7|apply zx|apply ZI|apply ZR|apply zn|apply Qu|apply Y0|apply R7|apply S6)|((with_reducible apply ZQ);exact cN rfl)|((with_reducible apply zr);exact rfl)|((with_reducible apply zA);exact rfl)|assumption|exact c|rfl
theorem qBi(hk:2<=k){M:Mem}(hM:FlatM M){x0:T}{o3 o4 o5 o6 o7 o8:Option T}:px (glT gs) (Pk (glT gs) Fs Cs k) [4,6,7] (.dlp 1 2 (.lst (.cons (nE 1) (.cons (nE 2) (.cons (nE 3) .nil)))) (.var 2) jo) [some x0,none,none,o3,o4,o5,o6,o7,o8] M=.ok (.nx [some x0,some (.dt [1,2,3] [row 1,row 2,row 3]),some (N 3),o3,o4,o5,o6,o7,o8],M):=by
 obtain⟨f1,e1⟩:=qBA (k:=k) hk hM (s:=1) (by decide) (x0:=x0) (o1:=none) (o3:=o3) (o4:=o4) (o5:=o5) (o6:=o6) (o7:=o7) (o8:=o8);obtain⟨f2,e2⟩:=qBA (k:=k) hk hM (s:=2) (by decide) (x0:=x0) (o1:=none) (o3:=o3) (o4:=o4) (o5:=o5) (o6:=o6) (o7:=o7) (o8:=o8);obtain⟨f3,e3⟩:=qBA (k:=k) hk hM (s:=3) (by decide) (x0:=x0) (o1:=none) (o3:=o3) (o4:=o4) (o5:=o5) (o6:=o6) (o7:=o7) (o8:=o8);rw[qCq,if_neg (by simp)];have ei:pei (glT gs) (Pk (glT gs) Fs Cs k) (.list (.lst (.cons (nE 1) (.cons (nE 2) (.cons (nE 3) .nil))))) ([some x0,none,none,o3,o4,o5,o6,o7,o8].set 1 none) M=.ok (([N 1,N 2,N 3],[]),M):=rfl;rw[ei,tD];dsimp only;have p:∀(t:T) (r:List T) (ks:List Int) (ys:List T) (σ:TS) (y:TB) (n:Nat),pe (glT gs) (Pk (glT gs) Fs Cs k) jo (σ.set 2 (some t)) M=.ok (y,M)->pe (glT gs) (Pk (glT gs) Fs Cs k) (.var 2) (σ.set 2 (some t)) M=.ok ((N n,true),M)->ks.length+1<lim/\(n:Int)∉ks/\y.1.isV=none->h8 [] 2 (pe (glT gs) (Pk (glT gs) Fs Cs k) (.var 2)) (pe (glT gs) (Pk (glT gs) Fs Cs k) jo) (t::r) ks ys σ M=h8 [] 2 (pe (glT gs) (Pk (glT gs) Fs Cs k) (.var 2)) (pe (glT gs) (Pk (glT gs) Fs Cs k) jo) r (ks++[(n:Int)]) (ys++[y.1]) (σ.set 2 (some t)) M:=λt r ks ys σ y n a b c=>by
  conv=>lhs;unfold h8
  rw[a,PR.nx_ok,tD];dsimp only;rw[b,PR.nx_ok,tD];show (if _ then _ else _)=_;rw[if_pos ⟨rfl,c⟩]
 have q1:=p (N 1) [N 2,N 3] [] [] [some x0,none,none,o3,o4,o5,o6,o7,o8] (row 1,f1) 1 e1 rfl ⟨by decide,by decide,rfl⟩;have q2:=p (N 2) [N 3] [1] [row 1] [some x0,none,some (N 1),o3,o4,o5,o6,o7,o8] (row 2,f2) 2 e2 rfl ⟨by decide,by decide,rfl⟩;have q3:=p (N 3) [] [1,2] [row 1,row 2] [some x0,none,some (N 2),o3,o4,o5,o6,o7,o8] (row 3,f3) 3 e3 rfl ⟨by decide,by decide,rfl⟩;have q:h8 [] 2 (pe (glT gs) (Pk (glT gs) Fs Cs k) (.var 2)) (pe (glT gs) (Pk (glT gs) Fs Cs k) jo) [N 1,N 2,N 3] [] [] [some x0,none,none,o3,o4,o5,o6,o7,o8] M=.ok (([1,2,3],[row 1,row 2,row 3],[some x0,none,some (N 3),o3,o4,o5,o6,o7,o8]),M):=q1.trans (q2.trans q3);show (h8 [] 2 (pe (glT gs) (Pk (glT gs) Fs Cs k) (.var 2)) (pe (glT gs) (Pk (glT gs) Fs Cs k) jo) [N 1,N 2,N 3] [] [] [some x0,none,none,o3,o4,o5,o6,o7,o8] M).bind _=_;rw[q];rfl
end
end _M
namespace _M
open PySem PySem.Spec _P
open _L (V)
open GF (JS wd par Cb)
theorem Kept.flat{n:Nat}{M M':Mem}(x:Kept n M M')(h:FlatM M):FlatM M':=by
 obtain⟨a,b,c0,e,_⟩:=x.good;intro c hc;obtain⟨j,hj,rfl⟩:=vS.mp hc;by_cases q:j=n
 ·subst q;rw[wD hj]at e;rw[Option.some.inj e];show T.unds 0 [N a,N b,.v (.bl c0)]=true;simp[T.unds,l4,T.und]
 ·have:=x.oth j q;rw[wD hj,wD (by have:=x.len;omega)]at this;rw[Option.some.inj this];exact h _ (vV _)
theorem qEu{gl:List T}{P:Nat->List T->Mem->PR (TB×Mem)}{σ:TS}{M M1 M2:Mem}{a b:E}{t u:T}{fa fb:Bool}{r:TB}(h:pe gl P a σ M=.ok ((t,fa),M1))(hb:pe gl P b σ M1=.ok ((u,fb),M2))(hd:qCE t u=some r):pe gl P (.dix a b) σ M=.ok (r,M2):=by
 rw[qDN,h,tD];dsimp only;rw[hb,tD];dsimp only;rw[hd];rfl
theorem C0:∀(s:Nat) (p:Nat),lp s (λ_=>false) p=false
 | 0,_=>rfl
 |s+1,p=>by
  show (if p<2 ^ s then lp s (λ_=>false) p else lp s (λ_=>false) (p-2 ^ s))=false;rw[C0 s,C0 s];simp
theorem V0(m:Nat):rf m (λ_=>false)=[]:=vZ.mpr λ_ _ h=>by cases h
theorem g5(s:Nat):lost s []=[]:=by
 have:=JO s λ_=>false;rw[V0,show lp s (λ_=>false)=λ_=>false from funext (C0 s),V0]at this;exact this
section
variable{k:Nat}
theorem qAO(hk:12<=k)(ns:List Int){i:Nat}(hi:i<=62){M:Mem}(hM:FlatM M){o2 o4 o5 o6 o7 o8:Option T}:∃p2 p4 p5 p6 p7 p8 M',pxs (glT gs) (Pk (glT gs) Fs Cs k) [4,6,7] O6 [some (.fz (ns.map λn=>.v (.int n))),some (.dt [1,2,3] [row 1,row 2,row 3]),o2,some (N i),o4,o5,o6,o7,o8] M=.ok (.nx [some (.fz (ns.map λn=>.v (.int n))),some (.dt [1,2,3] [row 1,row 2,row 3]),p2,some (N i),p4,p5,p6,p7,p8],M')/\FlatM M':=by
 obtain⟨a,b,c,e1,hb⟩:=qEd (k:=k) (by omega) ns (kk:=i) (by omega) M;have g0:qB8 (M++[stT a b c]) M.length:=⟨a,b,c,by simp,hb⟩
 have f0:FlatM (M++[stT a b c]):=hM.app λx hx=>by
  rw[wY.mp hx];show T.unds 0 [N a,N b,.v (.bl c)]=true;simp[T.unds,l4,T.und]
 obtain⟨d,M1,e2,hd,k1⟩:=qBM (k:=k) (by omega) g0 (m:=3) (by decide);obtain⟨s,hs⟩:∃s,s=1+d:=⟨_,rfl⟩
 have h1:1<=s:=by omega
 have h3:s<=3:=by omega
 have n8:2 ^ s<=8:=wH (we (by decide) h3) (by decide);obtain⟨S,fr,M2,e3,k2⟩:=qGd (k:=k) (by omega) k1.good (m:=2 ^ s) (by omega);have fM2:FlatM M2:=k2.flat (k1.flat f0);obtain⟨R,hR⟩:∃R,R=rf (2 ^ s) S:=⟨_,rfl⟩
 obtain⟨Q,hQ⟩:∃Q,Q=rf (2 ^ s) (lp s S):=⟨_,rfl⟩
 have rR:Ris 0 (2 ^ s) R:=by rw[hR];exact qDA _ _
 have lQ:lost s R=Q:=by rw[hR,hQ,JO]
 have mQ:Q.length<=8:=by rw[hQ];exact wH (wb _ _) (by simpa using n8)
 have fN:∀L:List Nat,FlatM [L.map N]:=λL x hx=>by rw[wY.mp hx];exact g8 0 L
 obtain⟨M3,hM3⟩:∃M3,M3=M2++[R.map N]:=⟨_,rfl⟩
 have fM3:FlatM M3:=by rw[hM3];exact fM2.app (fN R)
 have i3:IsL M3 (.cell M2.length) R:=IsL.cell (by rw[hM3];simp);have e5:=f8t (k:=k) (by omega) i3 h1 (by omega) rR;rw[lQ]at e5;obtain⟨M4,hM4⟩:∃M4,M4=M3++[Q.map N]:=⟨_,rfl⟩
 have fM4:FlatM M4:=by rw[hM4];exact fM3.app (fN Q)
 have l3:M3.length=M2.length+1:=by rw[hM3];simp
 have i4:IsL M4 (.cell M2.length) R:=IsL.cell (by rw[hM4,wC (by omega),hM3];simp);have j4:IsL M4 (.cell M3.length) Q:=IsL.cell (by rw[hM4];simp);have e6:=f15 (k:=k) (by omega) h3 S fM4;rw[<-hR,<-hQ]at e6;obtain⟨fd,dx⟩:∃f,qCE (.dt [1,2,3] [row 1,row 2,row 3]) (N s)=some (row s,f):=by
  have:s=1\/s=2\/s=3:=by omega
  rcases this with rfl|rfl|rfl<;>exact⟨_,rfl⟩
 have ty:=j4.ty;have nq:zB M4 .ne (.cell M3.length) (NL Q)=some false:=by rw[j4.cne (IsL.nl M4 Q)];simp
 have nr:zB M4 .ne (.cell M2.length) (NL R)=some false:=by rw[i4.cne (IsL.nl M4 R)];simp
 obtain⟨dd,s1,_,hd4⟩:=j4.src;have cb:=l5 (c:=pec (glT gs) (Pk (glT gs) Fs Cs k) (.cons (.isi (.var 0) ["bool"]) .nil)) (e:=pe (glT gs) (Pk (glT gs) Fs Cs k) (.var 0)) (M:=M4) (σ:=[]) (o:=none) (its:=Q) (d:=dd) (λ_=>false) (λx=>x) hd4 (wH mQ (by decide)) (λx _=>by simp[QW]) (λx _ z=>by cases z);rw[List.map_id',show Q.filter (λ_=>false)=[] from vZ.mpr λ_ _ h=>by cases h]at cb;have n0:zB M4 .ne (NL []) (.lst [])=some false:=by rw[show T.lst []=NL [] from rfl,(IsL.nl M4 []).cne (IsL.nl M4 [])];simp
 obtain⟨M5,hM5⟩:∃M5,M5=M3++[(Q++[0]).map N]:=⟨_,rfl⟩
 have fM5:FlatM M5:=by rw[hM5];exact fM3.app (fN _)
 have ap:i7 M4 M3.length (N 0)=some M5:=by
  rw[qAv (xs:=Q.map N) (by rw[hM4];simp) (by rw[wO];exact Nat.lt_of_le_of_lt mQ (by decide)),hM4,hM5,vo _ _ (wF _)];simp
 have i5:IsL M5 (.cell M2.length) R:=IsL.cell (by rw[hM5,wC (by omega),hM3];simp);have e8:=f8t (k:=k) (by omega) i5 h1 (by omega) rR;rw[lQ]at e8;have n5:zB M5 .ne (NL Q) (NL Q)=some false:=by rw[(IsL.nl M5 Q).cne (IsL.nl M5 Q)];simp
 obtain⟨M6,hM6⟩:∃M6,M6=M5.set M2.length []:=⟨_,rfl⟩
 have ln5:M2.length<M5.length:=by rw[hM5,wW,l3];simp;omega
 have fM6:FlatM M6:=λx hx=>by
  rw[hM6]at hx;rcases List.mem_or_eq_of_mem_set hx with z|rfl
  ·exact fM5 x z
  ·rfl
 have cl:JW .clr M2.length [] M5=some ((.v .non,true),M6):=by
  show (M5[M2.length]?).map _=_;rw[wD ln5,hM6];rfl
 have i6:IsL M6 (.cell M2.length) []:=IsL.cell (by rw[hM6,wZ ln5];rfl);have e9:=f8t (k:=k) (by omega) i6 h1 (by omega) (L:=[]) trivial;rw[g5]at e9;have n6:zB M6 .ne (NL []) (.lst [])=some false:=by rw[show T.lst []=NL [] from rfl,(IsL.nl M6 []).cne (IsL.nl M6 [])];simp
 have th:thaw M.length (.lst (stT a b c))=(.cell M.length,[stT a b c]):=rfl;have t6:thaw M2.length (NL R)=(.cell M2.length,[R.map N]):=X9 _ _;have t7:thaw M3.length (NL Q)=(.cell M3.length,[Q.map N]):=X9 _ _;have ad:∀{M:Mem},qr M .add (N 1) (N d)=some (N s,true):=λ{M}=>by rw[hs];exact zg _ _
 have ix:∀{M:Mem},Jd M (.lst [N 1,N 2,N 4,N 8]) (N s)=some (N (2 ^ s),true):=λ{M}=>by rw[ZW,qFo h3];rfl
 have li:∀{M:Mem},QC M .list [NL R]=some (NL R,true):=λ{M}=>qAY R;rw[<-hR]at e3;refine⟨some (N s),some (.cell M.length),some (NL R),some (.cell M2.length),some (.cell M3.length),some (NL Q),M6,?_,fM6⟩;have q6:∀{rs:Ss}{σ:TS}{q:PR (PO×Mem)},pxs (glT gs) (Pk (glT gs) Fs Cs k) [4,6,7] rs σ M3=q->pxs (glT gs) (Pk (glT gs) Fs Cs k) [4,6,7] rs σ (M2++[R.map N])=q:=λh=>by rw[<-hM3];exact h
 have q7:∀{rs:Ss}{σ:TS}{q:PR (PO×Mem)},pxs (glT gs) (Pk (glT gs) Fs Cs k) [4,6,7] rs σ M4=q->pxs (glT gs) (Pk (glT gs) Fs Cs k) [4,6,7] rs σ (M3++[Q.map N])=q:=λh=>by rw[<-hM4];exact h
 rw[O6]
 repeat' first|with_reducible (first|exact e1|exact th|exact e2|exact ad|exact ix|exact e3|exact li|exact t6|exact e5|exact t7|exact dx|exact e6|exact ty|exact nq|exact nr|exact s1|exact n0|exact ap|exact e8|exact n5|exact cl|exact e9|exact n6|exact ll4|exact jr|exact Qm|exact ZT|exact B0|exact P0|exact P5|exact qDh|exact qCU|exact qDD|exact O7|exact Y8|exact Qs|exact Qi|exact jx|exact ZE|exact isT|exact isF|exact ll0|exact ll1|exact ll2|exact ll3|exact ll4|exact jB|exact jC|exact jQ|exact QM|exact Zc|exact Zm|exact qAp|exact qAh|exact qAT|exact zg .. | exact Qf .. | exact ZC .. | exact QT .. | exact ZK .. | exact QH .. | exact Qr .. | assumption|apply q6|apply q7|apply zP|apply za|apply Ql|apply QV|apply Qx|apply ZL|apply QP|apply QR|apply jA|apply Qo|apply ZF|apply g6|apply Qw|apply Qv|apply zw|apply V3|apply zq|apply ZO|apply cT|apply cF|apply t_1|apply t_2|apply t_0|apply t_3|apply f_0|apply f_1|apply C5|apply c7|apply zx|apply ZI|apply ZR|apply zn|apply Qu|apply q6|apply q7|apply qEu|apply qCp|apply Y0|apply R7|apply S6)|((with_reducible apply ZQ);exact cN rfl)|((with_reducible apply zr);exact rfl)|((with_reducible apply zA);exact rfl)|assumption|exact cb|exact nF rfl|exact nT rfl|rfl
theorem qFD(hk:12<=k)(ns:List Int):∀(m i:Nat) (M:Mem) (o2 o3 o4 o5 o6 o7 o8:Option T),i+m<=63->FlatM M->∃σ' M',zN [] (.name 3) (pxs (glT gs) (Pk (glT gs) Fs Cs k) [4,6,7] O6) ((List.range' i m).map N) [some (.fz (ns.map λn=>.v (.int n))),some (.dt [1,2,3] [row 1,row 2,row 3]),o2,o3,o4,o5,o6,o7,o8] M=.ok (.nx σ',M')
 | 0,i,M,o2,o3,o4,o5,o6,o7,o8,h,hM=>⟨_,M,rfl⟩
 |m+1,i,M,o2,o3,o4,o5,o6,o7,o8,h,hM=>by
  obtain⟨p2,p4,p5,p6,p7,p8,M1,e,hM1⟩:=qAO hk ns (i:=i) (by omega) hM (o2:=o2) (o4:=o4) (o5:=o5) (o6:=o6) (o7:=o7) (o8:=o8);obtain⟨σ',M',e'⟩:=qFD hk ns m (i+1) M1 p2 (some (N i)) p4 p5 p6 p7 p8 (by omega) hM1;refine⟨σ',M',?_⟩;rw[vp,List.map_cons,jK];show PR.bind (pxs (glT gs) (Pk (glT gs) Fs Cs k) [4,6,7] O6 [some (.fz (ns.map λn=>.v (.int n))),some (.dt [1,2,3] [row 1,row 2,row 3]),o2,some (N i),o4,o5,o6,o7,o8] M) _=_;rw[e,tD];exact e'
end
theorem main:∀ns:List Int,ns.length<=63->∃h',Fk Tb.fns 30 16 [.ref gs.length] (Jw gs ns)=.ok (.bl true,h'):=by
 intro ns hn;obtain⟨σ',M',e⟩:=qFD (k:=29) (by omega) ns (max 1 (min 24 ns.length)) 0 [] (some (N 3)) none none none none none none (by omega) (λc hc=>by simp at hc);rw[<-vy]at e;have sh:=qBi (k:=29) (by omega) (M:=[]) (λc hc=>by simp at hc) (x0:=.fz (ns.map λn=>.v (.int n))) (o3:=none) (o4:=none) (o5:=none) (o6:=none) (o7:=none) (o8:=none);have key:∃b M2,Pk (glT gs) Fs Cs 30 16 [.fz (ns.map λn=>.v (.int n))] []=.ok ((.v (.bl true),b),M2):=by
  rw[qi t16 ⟨rfl,by decide⟩ (by omega),show Cs.getD 16 []=[4,6,7] from rfl];have ex:pxs (glT gs) (Pk (glT gs) Fs Cs (30-1)) [4,6,7] b16 ([T.fz (ns.map λn=>.v (.int n))].map some++List.replicate (9-1) none) []=.ok (.rt (bT true),M'):=by
   rw[b16];show pxs _ _ _ _ [some (.fz (ns.map λn=>.v (.int n))),none,none,none,none,none,none,none,none] []=_;rw[qd,sh,tD];dsimp only;simp(disch:=omega) [je,e]
  rw[ex];exact c6 _ _ _
 obtain⟨b,M2,e2⟩:=key;rw[qGD];exact qDb rfl e2
end _M
namespace PySem.W.Fast
theorem tw8600593021397703637:True:=trivial
theorem tw6296251427093714407:True:=trivial
theorem tw5319451686294026043:True:=trivial
theorem tw6044910466286961351:True:=trivial
theorem tw10350956919055019225:True:=trivial
theorem tw9236530340554669506:True:=trivial
theorem tw8270327309355203657:True:=trivial
theorem tw660139536006129095:True:=trivial
theorem tw9810154706910516493:True:=trivial
theorem tw754574319825275863:True:=trivial
theorem tw6551044832310345424:True:=trivial
theorem tw17397325265975616998:True:=trivial
theorem tw2395537522434418450:True:=trivial
theorem tw13380420082526180308:True:=trivial
theorem tw9490015281584618097:True:=trivial
theorem tw8850997108400589168:True:=trivial
theorem tw888530849074543041:True:=trivial
theorem tw5375919067320649774:True:=trivial
theorem tw14981645907410595263:True:=trivial
theorem tw16866442240658508736:True:=trivial
theorem tw4947350621446698062:True:=trivial
theorem tw12249879686894217606:True:=trivial
theorem tw11498472759902714742:True:=trivial
theorem tw10123108181443611940:True:=trivial
theorem tw6047909256425199968:True:=trivial
theorem tw6678681393314686654:True:=trivial
theorem tw7509671594561786952:True:=trivial
theorem tw6919301639268378546:True:=trivial
theorem tw16841618876419988397:True:=trivial
theorem tw10777014285466922109:True:=trivial
theorem tw4206640945412614830:True:=trivial
theorem tw106697739603401069:True:=trivial
theorem tw16694577031342569987:True:=trivial
theorem tw9876980123361906461:True:=trivial
theorem tw1453099421264968434:True:=trivial
theorem tw17615466201603736145:True:=trivial
theorem tw16684584678254481464:True:=trivial
theorem tw11659783678506107510:True:=trivial
theorem tw18017821326259273150:True:=trivial
theorem tw10327011393311611716:True:=trivial
theorem tw1795798102523884792:True:=trivial
theorem tw2047180502593684798:True:=trivial
theorem tw729696564489480664:True:=trivial
theorem tw13410305430418814735:True:=trivial
theorem tw2373117879982704520:True:=trivial
theorem tw6124094911296253813:True:=trivial
theorem tw5945112676810655239:True:=trivial
theorem tw3764706142377696360:True:=trivial
theorem tw14975434593929648523:True:=trivial
theorem tw13841600441586291319:True:=trivial
theorem tw6207624039764598709:True:=trivial
theorem tw8656419140339618345:True:=trivial
theorem tw16753232501082459934:True:=trivial
theorem tw8327205475940304530:True:=trivial
theorem tw5281279058771802485:True:=trivial
theorem tw13073649510458351589:True:=trivial
theorem tw9230093678400895214:True:=trivial
theorem tw2844349703746446382:True:=trivial
theorem tw13370969554714666800:True:=trivial
theorem tw9963650220970670404:True:=trivial
theorem tw16157223312331022706:True:=trivial
theorem tw14262417097125648506:True:=trivial
theorem tw13469231843833853700:True:=trivial
theorem tw7511958577141152824:True:=trivial
theorem tw15140021857114287653:True:=trivial
theorem tw3873269144349025811:True:=trivial
theorem tw1391590550701331011:True:=trivial
theorem tw17265881536824457197:True:=trivial
theorem tw10899903907361182472:True:=trivial
theorem tw4244043491138415831:True:=trivial
theorem tw13364451100619901418:True:=trivial
theorem tw16987028825316285411:True:=trivial
theorem tw9685815889870588579:True:=trivial
theorem tw7008656868495738528:True:=trivial
theorem tw17697632846780248122:True:=trivial
theorem tw4388440943781306021:True:=trivial
theorem tw17917575755133656309:True:=trivial
theorem tw8926755548786414628:True:=trivial
theorem tw2415399778954363620:True:=trivial
theorem tw12749771923164878070:True:=trivial
theorem tw17973159187536891257:True:=trivial
theorem tw1431536412900551245:True:=trivial
theorem tw9102586739441406384:True:=trivial
theorem tw10688797629801457951:True:=trivial
theorem tw11482564233484897867:True:=trivial
theorem tw14811164429993690851:True:=trivial
theorem tw5258527532849491288:True:=trivial
theorem tw7590567896840060193:True:=trivial
theorem tw4381866852543509241:True:=trivial
theorem tw9455448463078867437:True:=trivial
theorem tw12516182003673997102:True:=trivial
theorem tw11420089040117352035:True:=trivial
theorem tw5870301024708877771:True:=trivial
theorem tw5860511056826438745:True:=trivial
theorem tw3072112619471575987:True:=trivial
theorem tw6974475979707392993:True:=trivial
theorem tw17394864684289567093:True:=trivial
theorem tw5682049021704004606:True:=trivial
theorem tw12743073697953226853:True:=trivial
theorem tw12193105641581981375:True:=trivial
theorem tw14482683411578908771:True:=trivial
theorem tw4012047042710127304:True:=trivial
theorem tw1327463613064860727:True:=trivial
theorem tw16838218398345930864:True:=trivial
theorem tw8366049474609724712:True:=trivial
theorem tw1582770309642204779:True:=trivial
theorem tw15524981563818264473:True:=trivial
theorem tw13731006932045276727:True:=trivial
theorem tw678349224181361098:True:=trivial
theorem tw14664832624855467256:True:=trivial
theorem tw12299578820371919358:True:=trivial
theorem tw17947438231684064549:True:=trivial
theorem tw15300170630144035925:True:=trivial
theorem tw5709330344320270974:True:=trivial
theorem tw9444329315867596842:True:=trivial
theorem tw15228948193898737984:True:=trivial
theorem tw6247697100276653408:True:=trivial
theorem tw1256777533225181884:True:=trivial
theorem tw17181596802029444235:True:=trivial
theorem tw368025924809736360:True:=trivial
theorem tw11516403683679277182:True:=trivial
theorem tw11597252469654756336:True:=trivial
theorem tw17110151298562878629:True:=trivial
theorem tw6324747974195654676:True:=trivial
theorem tw12590142255338784120:True:=trivial
theorem tw16144868418505781423:True:=trivial
theorem tw12122713748570180849:True:=trivial
theorem tw15906032499179153532:True:=trivial
theorem tw4657787485122699985:True:=trivial
theorem tw352223528623614021:True:=trivial
theorem tw16645676698621193966:True:=trivial
theorem tw213095658506124564:True:=trivial
theorem tw3921050400347648179:True:=trivial
theorem tw13849542829558032189:True:=trivial
theorem tw7101248370132430305:True:=trivial
theorem tw2202635279906900109:True:=trivial
theorem tw10926659674919133438:True:=trivial
theorem tw9585333268401593021:True:=trivial
theorem tw11665156817488186378:True:=trivial
theorem tw18242830787184063588:True:=trivial
theorem tw8975287218649047986:True:=trivial
theorem tw14009636216653280083:True:=trivial
theorem tw6870235572358240993:True:=trivial
theorem tw5236924943065123799:True:=trivial
theorem tw6417413917583748441:True:=trivial
theorem tw9260379464707457333:True:=trivial
theorem tw11398723854894101575:True:=trivial
theorem tw11239656221777020172:True:=trivial
end PySem.W.Fast
namespace _M
open PySem PySem.Spec PyProof.Rows _L _P
theorem dk1{d:Q3}(h:d.ps.length=1)(sc:zK d.N d.ps (defScope d.st))(b:∀(kV doc pm:Value) (an:Option Addr) (cdv ct:Value),∀u0:Value,bindArgs (PySem.W.fnOf d.x d.x (zV d.st) (defBody d.st) (defScope d.st) .none kV doc pm an cdv ct) ⟨[u0],[]⟩=pure (d.ps.zip [u0])):qCm d:=⟨sc,λ_ _ _ _ _ _ us hl=>by
 rw[h]at hl;obtain⟨_,rfl⟩:=_P.len1 hl;exact b _ _ _ _ _ _ _⟩
theorem dk2{d:Q3}(h:d.ps.length=2)(sc:zK d.N d.ps (defScope d.st))(b:∀(kV doc pm:Value) (an:Option Addr) (cdv ct:Value),∀u0 u1:Value,bindArgs (PySem.W.fnOf d.x d.x (zV d.st) (defBody d.st) (defScope d.st) .none kV doc pm an cdv ct) ⟨[u0,u1],[]⟩=pure (d.ps.zip [u0,u1])):qCm d:=⟨sc,λ_ _ _ _ _ _ us hl=>by
 rw[h]at hl;obtain⟨_,_,rfl⟩:=_P.len2 hl;exact b _ _ _ _ _ _ _ _⟩
theorem dks:∀d∈Tb.ds,qCm d:=by
 unfold Tb;dsimp only
 repeat' (refine wq.2 ⟨?_,?_⟩;first|exact dk1 rfl ⟨rfl,rfl,rfl,by decide +kernel,rfl,by decide +kernel,by decide +kernel⟩ λ_ _ _ _ _ _ _=>rfl|exact dk2 rfl ⟨rfl,rfl,rfl,by decide +kernel,rfl,by decide +kernel,by decide +kernel⟩ λ_ _ _ _ _ _ _ _=>rfl)
 exact λ_ h=>nomatch h
theorem all_mk{l:PySem.W.OpenLaw}{w:World}{K:PySem.W.Frag}{h:Heap}{mg:Str->Option Value}{fa:Addr}(X:K.In h)(G:h.Ns mainGlobals mg)(hfa:mg "law"=some (.ref fa))
  (hds:∀d∈Tb.ds,qCV K d)
  {ga0:Addr}{gn0:Nat}{gsl0:Array (Option Value)}{u0_0 u0_1 u0_2 u0_3 u0_4 u0_5:Tok}(g_LENGTHS:PySem.W.nsIn K mainGlobals "LENGTHS"=some (some (.ref ga0))) (m0:K.lookup ga0=some ⟨.type "tuple",none,.seq #[.int 1 u0_0,.int 2 u0_1,.int 4 u0_2,.int 8 u0_3,.int 16 u0_4,.int 32 u0_5] gn0,gsl0⟩)
  {tg_GREATEST_SIZE:Tok}(g_GREATEST_SIZE:PySem.W.nsIn K mainGlobals "GREATEST_SIZE"=some (some (.int 5 tg_GREATEST_SIZE)))
  (z_len:PySem.W.nsIn K mainGlobals "len"=some none)
  (z_sum:PySem.W.nsIn K mainGlobals "sum"=some none)
  (z_max:PySem.W.nsIn K mainGlobals "max"=some none)
  (z_min:PySem.W.nsIn K mainGlobals "min"=some none)
  (z_list:PySem.W.nsIn K mainGlobals "list"=some none)
  (z_int:PySem.W.nsIn K mainGlobals "int"=some none)
  (z_range:PySem.W.nsIn K mainGlobals "range"=some none)
  (z_isinstance:PySem.W.nsIn K mainGlobals "isinstance"=some none)
  (z_bool:PySem.W.nsIn K mainGlobals "bool"=some none)
  (z_sorted:PySem.W.nsIn K mainGlobals "sorted"=some none)
  (z_set:PySem.W.nsIn K mainGlobals "set"=some none)
  (z_ValueError:PySem.W.nsIn K mainGlobals "ValueError"=some none)
  (main:∀ns:List Int,ns.length<=63->∃h',Fk Tb.fns 30 16 [.ref gs.length] (Jw gs ns)=.ok (.bl true,h')):
  ∃fd:FuncData,(∀(s:Shared) (v:Value),BindsTo s fd ⟨[v],[]⟩ [("_law_script",v)])/\∀base:Heap,K.In base->base.Ns mainGlobals mg->FnOk l.prog w K mg base CX0 60 fa fd ["_law_script"] (z0 K):=by
 obtain⟨fas,fds,hT⟩:=qAo X G Tb.ds hds dks;have O:y8 K mg [ga0] Tb fas fds:=by
  refine⟨hT,λx e hx=>?_,λx hx=>?_,λa ha=>(wP.mp ha).elim (λz=>by subst z;exact⟨_,m0,rfl,rfl⟩) λha=>nomatch ha⟩
  ·have hx2:List.lookup x ([("LENGTHS",E.glob 0),("GREATEST_SIZE",E.cst (.int 5))]:List (Str×E))=some e:=hx;simp only[List.lookup_cons,List.lookup_nil]at hx2;split at hx2
   ·rename_i hq;have hq2:x="LENGTHS":=by simpa using hq
    subst hq2;cases hx2;exact .inr ⟨_,_,rfl,PySem.W.mg_of X G g_LENGTHS,rfl⟩
   split at hx2
   ·rename_i hq;have hq2:x="GREATEST_SIZE":=by simpa using hq
    subst hq2;cases hx2;exact .inl ⟨_,_,rfl,PySem.W.mg_of X G g_GREATEST_SIZE,⟨_,rfl⟩,λ_=>rfl⟩
   cases hx2
  ·have hx2:x∈(["len","sum","max","min","list","int","range","isinstance","bool","sorted","set","ValueError"]:List Str):=List.contains_iff_mem.mp hx;simp only[wP,wt,or_false]at hx2;rcases hx2 with rfl|rfl|rfl|rfl|rfl|rfl|rfl|rfl|rfl|rfl|rfl|rfl
   ·exact PySem.W.mg_none_of X G z_len
   ·exact PySem.W.mg_none_of X G z_sum
   ·exact PySem.W.mg_none_of X G z_max
   ·exact PySem.W.mg_none_of X G z_min
   ·exact PySem.W.mg_none_of X G z_list
   ·exact PySem.W.mg_none_of X G z_int
   ·exact PySem.W.mg_none_of X G z_range
   ·exact PySem.W.mg_none_of X G z_isinstance
   ·exact PySem.W.mg_none_of X G z_bool
   ·exact PySem.W.mg_none_of X G z_sorted
   ·exact PySem.W.mg_none_of X G z_set
   ·exact PySem.W.mg_none_of X G z_ValueError
 have hG:L3 K [ga0] gs:=⟨⟨.inr ⟨_,_,_,m0,rfl,rfl,by show 6<=sizeLine;decide,.cons ⟨_,rfl⟩ (.cons ⟨_,rfl⟩ (.cons ⟨_,rfl⟩ (.cons ⟨_,rfl⟩ (.cons ⟨_,rfl⟩ (.cons ⟨_,rfl⟩ (.nil))))))⟩,rfl⟩,True.intro⟩
 obtain⟨a,f,e1,e2,F,_,em,_⟩:=hT 16 _ rfl;have e:=hfa.symm.trans em;cases e;exact⟨f,qEL F (dks _ (wS (i:=16) rfl)) rfl,λbase _ _=>U1 O hG (i:=16) rfl e1 e2 rfl main⟩
theorem walk{l:PySem.W.OpenLaw}{q:Program}{loose:List Str}{XP:(Str->Option Value)->Heap->Prop}{YP:World->Heap->Prop}{d:DefRec}{K:Params->PySem.W.Frag}(hn:l.most=some 63)(hdf:d.params.defaults=[])
  (hY:∀(w:World) (h:Heap),YP w h->(K w.params).In h)
  (F:∀(w:World) (mg:Str->Option Value) (fa:Addr) (h:Heap),(K w.params).In h->h.Ns mainGlobals mg->mg d.name=some (.ref fa) ->
   ∃fd:FuncData,(∀(s:Shared) (u:Value),BindsTo s fd ⟨[u],[]⟩ [("_law_script",u)])/\∀base:Heap,(K w.params).In base->base.Ns mainGlobals mg->FnOk l.prog w (K w.params) mg base CX0 60 fa fd ["_law_script"] (z0 (K w.params))):
  PySem.W.WalkO q loose XP YP l.row.toRowW d [] (λf vs=>PySem.call f vs):=
 _L.walk_of (n:=63) (k:=60) (x:="_law_script") (CX:=λ_=>CX0) (sp:=λw=>z0 (K w.params)) hn (by decide) hdf ⟨rfl,by decide,by decide,rfl⟩ hY F (λ_ _ a ns hl hO hS=>⟨a,ns,rfl,hO,hS,hl,λ_=>rfl⟩) λ_ _ _ _ _ z=>z
end _M
open PySem PySem.W PyProof.Rows
set_option maxRecDepth 100000 in
set_option maxHeartbeats 0 in
theorem PySem.Challenge.cw_healhalves_k15_lost_by_all_cores_holds : PySem.Challenge.rw_healhalves_k15_lost_by_all_cores.Holds := by
 w_on;o_law;k_head;(case hw=>w_witness2)
 k_fill
 refine _M.walk (l:=PySem.Challenge.rw_healhalves_k15_lost_by_all_cores) rfl rfl (λw h Y=>PySem.W.kIn_of Y) ?F
 case F=>
  intro w mg fa h KX G hmg
  refine' _M.all_mk KX G hmg ?ds ?g_LENGTHS ?m0 ?g_GREATEST_SIZE ?z_len ?z_sum ?z_max ?z_min ?z_list ?z_int ?z_range ?z_isinstance ?z_bool ?z_sorted ?z_set ?z_ValueError _M.main
  case ds=>
   unfold _M.Tb;dsimp only
   repeat' (refine wq.2 ⟨⟨_,_,_,_,_,_,_,_,_,_,by k_is,by k_is,by k_is,by k_is⟩,?_⟩)
   exact λ_ h=>nomatch h
  all_goals (try k_is)
