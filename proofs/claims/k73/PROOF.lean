import PyProof.Rows.All
import Wide.All
import OpenK.AllK
import Wide.FinOn
import Lean
import PyProof.EqAt
import PyProof.EqKinds
import PyProof.TupleCall
import PyProof.NeKinds
import PyProof.ZipIter
import PyProof.ReprRoads
import Wide.Words
import PyProof.Rows.MinMaxN
import KE.KIntText
import PyProof.StrWalks
import PyProof.StrLawsJoin
import KE.KSortKey
import KE.KDictOf
import KE.KItemsList
import PyProof.AttrMissHeap
import KE.KRevIter
import PyProof.EnumMake
import PyProof.EnumFor
import PyProof.WalksEnum
import PyProof.Rows.EnumRows
import PyProof.FactsAll.range_2
import PyProof.AutoRange
import KE.KTryMore
import PyProof.ExcArgsOwn
import OpenK.KOwn
import PyProof.NsDelKeeps
import PySem.Challenge.RW_healhalves_k73_roads_of_plans
set_option linter.all false
def wA:=@Option.map_eq_some_iff
def wB:=@List.getElem?_eq_some_iff
def wC:=@Bool.and_eq_true
def wD:=@List.getElem?_append_left
def wE:=@List.getElem?_eq_getElem
def wF:=@Nat.le_refl
def wG:=@Nat.le_trans
def wH:=@Nat.lt_of_lt_of_le
def wI:=@List.mem_cons_of_mem
def wJ:=@List.mem_append
def wK:=@List.size_toArray
def wL:=@List.mem_cons
def wM:=@List.mem_cons_self
def wN:=@Option.bind_eq_some_iff
def wO:=@List.append_nil
def wP:=@List.mem_append_left
def wQ:=@List.getElem?_append_right
def wR:=@List.mem_of_getElem?
def wS:=@List.mem_append_right
def wT:=@List.length_append
def wU:=@List.all_eq_true
def wV:=@List.append_assoc
def wW:=@List.getElem?_set_ne
def wX:=@Nat.ne_of_lt
def wY:=@List.mem_range
def wZ:=@List.length_map
def wa:=@List.getD_eq_getElem?_getD
def wb:=@List.length_eq_zero_iff
def wd:=@List.getElem?_eq_none
def we:=@List.forall_mem_cons
def wg:=@List.not_mem_nil
def wj:=@List.getElem?_map
def wk:=@Nat.lt_of_le_of_lt
def wl:=@Nat.lt_irrefl
def wm:=@Bool.eq_iff_iff
def wn:=@List.getElem?_set_self
def wo:=@List.mem_singleton
def wp:=@List.nodup_append
def wq:=@Nat.pow_le_pow_right
def wt:=@List.set_append_right
def wu:=@Bool.false_ne_true
def wv:=@List.filterMap_cons
def wx:=@List.map_map
def wy:=@List.map_append
def wz:=@List.range_eq_range'
def vA:=@Nat.lt_trans
def vB:=@List.filter_cons_of_pos
def vC:=@List.mem_filter
def vD:=@Array.length_toList
def vE:=@List.filter_eq_self
def vF:=@Nat.le_of_lt
def vG:=@List.mem_map
def vH:=@Nat.le_add_right
def vI:=@List.lookup_append
def vJ:=@List.pairwise_cons
def vK:=@List.contains_iff_mem
def vL:=@List.length_filter_le
def vM:=@Int.mul_comm
def vN:=@List.getElem?_take_of_lt
def vO:=@List.getElem?_range
def vP:=@List.filter_cons_of_neg
def vQ:=@List.range'_succ
def vR:=@Bool.false_eq_true
def vS:=@List.filter_eq_nil_iff
def vT:=@Bool.or_eq_true
def vU:=@List.take_left'
def vV:=@Int.toNat_natCast
def vW:=@Nat.lt_succ_self
def vX:=@List.map_congr_left
def vY:=@Bool.and_true
def vZ:=@List.filter_append
def vc:=@Nat.eq_zero_or_pos
def vd:=@Nat.mod_lt
def ve:=@Nat.add_sub_cancel_left
def vf:=@List.length_range
def vg:=@Bool.not_eq_true'
def vh:=@List.getElem?_inj
def vi:=@List.nodup_nil
def vj:=@Nat.sub_self
def vk:=@List.pairwise_map
def vm:=@List.pairwise_lt_range
def vn:=@List.map_id'
def vo:=@List.flatMap_cons
def vp:=@List.ext_getElem?
def vq:=@List.mem_iff_getElem?
def vt:=@List.length_take
def vv:=@Nat.zero_le
def vw:=@List.mem_iff_getElem
def vy:=@List.nodup_cons
def vz:=@List.length_nil
def uA:=@Nat.zero_add
def uB:=@Nat.pow_succ
def uC:=@Nat.mul_pos
open PySem PySem.Spec in def uD:=@wpAny_bind
open PySem PySem.Spec in def uE:=@wpAny_pure
def uF:=@decide_eq_false
def uG:=@decide_eq_true
def uH:=@decide_eq_true_eq
def uI:=@of_decide_eq_true
open PySem PySem.Spec in def uJ:=@wpAny_truthy_bool
def uK:=@beq_self_eq_true
set_option bootstrap.genMatcherCode false
set_option compiler.extract_closed false
set_option genSizeOf false
set_option genSizeOfSpec false
set_option Elab.async false
set_option maxRecDepth 100000
namespace _L
open PySem PySem.Spec PyProof.Rows
noncomputable abbrev Key:=Sum Int Str
noncomputable def Q4:Key->Value->Bool
 | .inl k,v=>Value.isInt k v
 | .inr x,v=>Value.isStrOf x v
noncomputable def qIH(w:World):Key->Int
 | .inl k=>hashInt k
 | .inr x=>hashStr w x
theorem qj:∀{k:Key}{v:Value},Q4 k v=true->(∃i t,k=Sum.inl i/\v=Value.int i t)\/(∃x t,k=Sum.inr x/\v=Value.str x t)
 | .inl i,v,h=>by
  obtain⟨t,e⟩:=Value.isInt_shape (k:=i) (v:=v) h;exact .inl ⟨i,t,rfl,e⟩
 | .inr x,v,h=>by
  obtain⟨t,e⟩:=Value.isStrOf_shape (x:=x) (v:=v) h;exact .inr ⟨x,t,rfl,e⟩
theorem j2(i:Int)(t:Tok):Q4 (.inl i) (.int i t)=true:=by simp[Q4,Value.isInt]
theorem V8(x:Str)(t:Tok):Q4 (.inr x) (.str x t)=true:=by simp[Q4,Value.isStrOf]
theorem qE8(a b:Int):decide ((Sum.inl a:Key)=Sum.inl b)=(a==b):=by
 by_cases e:a=b
 ·subst e;simp
 ·have h:¬ (Sum.inl a:Key)=Sum.inl b:=λq=>e (Sum.inl.inj q);rw[uF h];exact(beq_eq_false_iff_ne.mpr e).symm
theorem qDk(a b:Str):decide ((Sum.inr a:Key)=Sum.inr b)=decide (a=b):=by
 by_cases e:a=b
 ·subst e;simp
 ·have h:¬ (Sum.inr a:Key)=Sum.inr b:=λq=>e (Sum.inr.inj q);rw[uF h,uF e]
theorem qEE(a:Int)(b:Str):decide ((Sum.inl a:Key)=Sum.inr b)=false:=uF (λq=>nomatch q)
theorem qEw(a:Str)(b:Int):decide ((Sum.inr a:Key)=Sum.inl b)=false:=uF (λq=>nomatch q)
noncomputable def zN(prog:Program)(w:World):PySem.KeyKind prog w Key where
 is:=Q4
 hash:=qIH w
 inj:=λv a b ha hb=>by
  rcases qj ha with⟨i,t,rfl,rfl⟩|⟨x,t,rfl,rfl⟩
  ·rcases qj hb with⟨j,u,rfl,e⟩|⟨y,u,rfl,e⟩
   ·injection e with e1 _;rw[e1]
   ·exact nomatch e
  ·rcases qj hb with⟨j,u,rfl,e⟩|⟨y,u,rfl,e⟩
   ·exact nomatch e
   ·injection e with e1 _;rw[e1]
 byValue:=λk v h=>by
  rcases qj h with⟨i,t,rfl,rfl⟩|⟨x,t,rfl,rfl⟩<;>rfl
 pyHash:=λhv h=>by
  rcases qj hv with⟨i,t,rfl,rfl⟩|⟨x,t,rfl,rfl⟩
  ·exact wpAny_pyHash_int h
  ·exact wpAny_pyHash_str h
 eqBool:=λhu hv h=>by
  rcases qj hu with⟨i,t,rfl,rfl⟩|⟨x,t,rfl,rfl⟩
  ·rcases qj hv with⟨j,u,rfl,rfl⟩|⟨y,u,rfl,rfl⟩
   ·rw[qE8]at h;exact wpAny_eqBool_int h
   ·rw[qEE]at h;exact SeqAt.EqAt.int_str i t y u _ _ _ _ h
  ·rcases qj hv with⟨j,u,rfl,rfl⟩|⟨y,u,rfl,rfl⟩
   ·rw[qEw]at h;exact SeqAt.EqAt.str_int x t j u _ _ _ _ h
   ·rw[qDk]at h;exact wpAny_eqBool_str h
 «strs»:=λk x t v h=>by
  rcases qj h with⟨i,u,rfl,e⟩|⟨y,u,rfl,e⟩
  ·exact nomatch e
  ·injection e with e1 _;subst e1;cases v<;>rfl
theorem D8(prog:Program)(w:World)(i:Int)(t:Tok):(zN prog w).is (.inl i) (.int i t)=true:=j2 i t
theorem C6(prog:Program)(w:World)(x:Str)(t:Tok):(zN prog w).is (.inr x) (.str x t)=true:=V8 x t
inductive V where
 |non|bl (b:Bool)|int (i:Int)|str (x:Str)|byt (b:Array UInt8)|flt (b:UInt64)|ref (a:Addr)|ty (n:String)
 deriving DecidableEq
def RelV:V->Value->Prop
 | .non,u=>u=Value.none
 | .bl b,u=>u=Value.bool b
 | .int i,u=>∃t,u=Value.int i t
 | .str x,u=>∃t,u=Value.str x t
 | .byt b,u=>∃t,u=Value.bytes b t
 | .flt b,u=>∃t,u=Value.float b t
 | .ref a,u=>u=Value.ref a
 | .ty n,u=>u=Value.type n
abbrev Vals:List V->List Value->Prop:=Paired RelV
theorem Vals.length{xs:List V}{us:List Value}(r:Vals xs us):xs.length=us.length:=Paired.length r
theorem Vals.get:∀{xs:List V}{us:List Value}{i:Nat}{x:V},Vals xs us->xs[i]?=some x->∃u,us[i]?=some u/\RelV x u
 |_,_,_,_,.nil,e=>by simp at e
 |_,_,0,_,.cons r _,e=>by simp at e;subst e;exact⟨_,rfl,r⟩
 |_,_,i+1,x,.cons _ t,e=>by
  obtain⟨u,h1,h2⟩:=Vals.get (i:=i) (x:=x) t (by simpa using e);exact⟨u,by simpa using h1,h2⟩
theorem Vals.set{x:V}{u:Value}(r:RelV x u):∀{xs:List V}{us:List Value}(i:Nat),Vals xs us->Vals (xs.set i x) (us.set i u)
 |_,_,_,.nil=>.nil
 |_,_,0,.cons _ t=>.cons r t
 |_,_,i+1,.cons q t=>.cons q (Vals.set r i t)
theorem Vals.append:∀{xs ys:List V}{us ws:List Value},Vals xs us->Vals ys ws->Vals (xs++ys) (us++ws)
 |_,_,_,_,.nil,s=>s
 |_,_,_,_,.cons r t,s=>.cons r (Vals.append t s)
theorem Vals.take:∀{xs:List V}{us:List Value}(n:Nat),Vals xs us->Vals (xs.take n) (us.take n)
 |_,_,0,_=>.nil
 |_,_,_+1,.nil=>.nil
 |_,_,n+1,.cons r t=>.cons r (Vals.take n t)
theorem Vals.drop:∀{xs:List V}{us:List Value}(n:Nat),Vals xs us->Vals (xs.drop n) (us.drop n)
 |_,_,0,r=>r
 |_,_,_+1,.nil=>.nil
 |_,_,n+1,.cons _ t=>Vals.drop n t
def RelO:Option V->Option Value->Prop
 |some v,some u=>RelV v u
 |none,none=>True
 |_,_=>False
def KV{κ:Type}:List (κ×V)->List (κ×Value)->Prop:=Paired λ(p:κ×V) (q:κ×Value)=>p.1=q.1/\RelV p.2 q.2
noncomputable def kV:Key->V
 | .inl i=>.int i
 | .inr x=>.str x
inductive HO where
 |lst (xs:List V)
 |tup (xs:List V)
 |dK (kvs:List (Key×V))|dT (kvs:List (List Key×V))
 |set (S:Int->Bool) (n:Nat)
 |ins (C dx:Addr) (fs:List (Str×V))
 |own (x:Addr)
 |xd (fs:List (Str×V))
 |met (f x:Addr)
 |rng (lo hi:Int)
 |frz (o:Obj) (u:HO)
 |tbl (ps:Array Value)
 |ext (φ:Heap->Prop)
noncomputable abbrev Hp:=Addr->Option HO
noncomputable def upd(H:Hp)(a:Addr)(o:HO):Hp:=λb=>if b=a then some o else H b
theorem upd_same{H:Hp}{a:Addr}{o:HO}:upd H a o a=some o:=by unfold upd;rw[if_pos rfl]
theorem upd_ne{H:Hp}{a b:Addr}{o:HO}(h:b≠a):upd H a o b=H b:=by unfold upd;rw[if_neg h]
theorem qF6{H:Hp}{a b:Addr}{o u:HO}(h:H a=some o)(h':H b=some u)(d:o≠u):a≠b:=by
 intro e;subst e;rw[h]at h';exact d (Option.some.inj h')
theorem ne_of_none{H:Hp}{a b:Addr}{o:HO}(h:H a=some o)(h':H b=none):a≠b:=by
 intro e;subst e;rw[h]at h';cases h'
section
variable (P:Program)(w:World)
def ObjOk(H:Hp)(h:Heap)(a:Addr):HO->Prop
 | .lst xs=>xs.length<=sizeLine/\∃(its:List Value) (n:Nat),Vals xs its/\h.get? a=some { cls:=.type "list",data:=.seq its.toArray n }
 | .tup xs=>xs.length<=sizeLine/\∃its:List Value,Vals xs its/\IsTup h a its.toArray
 | .dK kvs=>kvs.length<=sizeLine/\(a==sysModules)=false/\∃vs,KV kvs vs/\h.DictOf (zN P w) a vs
 | .dT kvs=>kvs.length<=sizeLine/\(a==sysModules)=false/\∃xs:List (List Key×Addr×Value),
   Paired (λ(p:List Key×V) (q:List Key×Addr×Value)=>p.1=q.1/\H q.2.1=some (.tup (p.1.map kV))/\RelV p.2 q.2.2) kvs xs/\
   ∃o es ep,h.get? a=some o/\o.ExactDict/\o.data=.dict es ep/\es.toList=xs.map (entryOfKey (tupleKind (zN P w)))/\(xs.map (·.1)).Nodup
 | .set S n=>h.SetOf (intKind P w) a S n
 | .ins C dx fs=>H dx=some (.own a)/\fs.length<=1000/\dx≠a/\h.get? a=some (PySem.W.instObj C dx)/\
   ∃mA,h.Ns1 dx mA/\(∀f,RelO (fs.lookup f) (mA f))/\PySem.Within mA (fs.map (·.1))
 | .own _=>∃o,h.get? a=some o
 | .xd fs=>∃mA,h.Ns1 a mA/\∀f,RelO (fs.lookup f) (mA f)
 | .rng lo hi=>∃t u v,h.get? a=some { cls:=.type "range",data:=.fields #[.int lo t,.int hi u,.int 1 v] }
 | .frz o u=>h.get? a=some o/\ObjOk H h a u
 | .tbl ps=>h.get? a=some { cls:=.none,data:=.fields ps }
 | .met f x=>h.get? a=some (PySem.W.methodObj (.ref f) (.ref x))
 | .ext φ=>φ h/\(∃o,h.get? a=some o)/\∀h1 h2:Heap,φ h1->(∀o,h1.get? a=some o->h2.get? a=some o)->φ h2
def HOk(H:Hp)(h:Heap):Prop:=∀a o,H a=some o->ObjOk P w H h a o
end
section
variable{P:Program}{w:World}{H H':Hp}{h h':Heap}{a:Addr}{o:HO}
theorem ObjOk.lt(x:ObjOk P w H h a o):a<h.objs.size:=by
 cases o with
 |lst xs=>obtain⟨_,_,_,_,e⟩:=x;exact Heap.lt_size e
 |tup xs=>obtain⟨_,_,_,p⟩:=x;exact p.lt
 |dK kvs=>obtain⟨_,_,_,_,o,_,_,e,_⟩:=x;exact Heap.lt_size e
 |dT kvs=>obtain⟨_,_,_,_,o,_,_,e,_⟩:=x;exact Heap.lt_size e
 |set S n=>obtain⟨o,_,_,_,e,_⟩:=x;exact Heap.lt_size e
 |ins C dx fs=>obtain⟨_,_,_,e,_⟩:=x;exact Heap.lt_size e
 |own y=>obtain⟨_,e⟩:=x;exact Heap.lt_size e
 |xd fs=>obtain⟨_,⟨_,_,_,e,_⟩,_⟩:=x;exact Heap.lt_size e
 |rng lo hi=>obtain⟨_,_,_,e⟩:=x;exact Heap.lt_size e
 |frz ob u=>obtain⟨e,_⟩:=x;exact Heap.lt_size e
 |tbl ps=>exact Heap.lt_size (show h.get? a=some _ from x)
 |met f y=>exact Heap.lt_size (show h.get? a=some _ from x)
 |ext φ=>obtain⟨_,⟨_,e⟩,_⟩:=x;exact Heap.lt_size e
theorem Paired.mapP{α β:Type}{F G:α->β->Prop}:∀{l₁:List α}{l₂:List β},Paired F l₁ l₂->(∀a b,F a b->G a b)->Paired G l₁ l₂
 |_,_,.nil,_=>.nil
 |_,_,.cons r t,f=>.cons (f _ _ r) (Paired.mapP t f)
theorem ObjOk.stay(x:ObjOk P w H h a o)(k:∀b u,(b=a\/H b=some (.own a))->h.get? b=some u->h'.get? b=some u)
  (ho:∀b,H b=some (.own a)->H' b=some (.own a)) (ht:∀b xs,H b=some (.tup xs)->H' b=some (.tup xs)):ObjOk P w H' h' a o:=by
 induction o with
 |lst xs=>obtain⟨z,its,n,r,e⟩:=x;exact⟨z,its,n,r,k _ _ (.inl rfl) e⟩
 |tup xs=>obtain⟨z,its,r,ob,e,c⟩:=x;exact⟨z,its,r,ob,k _ _ (.inl rfl) e,c⟩
 |dK kvs=>obtain⟨z,y,vs,r,ob,es,ep,e,c⟩:=x;exact⟨z,y,vs,r,ob,es,ep,k _ _ (.inl rfl) e,c⟩
 |dT kvs=>
  obtain⟨z,y,xs,r,ob,es,ep,e,c⟩:=x;exact⟨z,y,xs,Paired.mapP r λp q z=>⟨z.1,ht _ _ z.2.1,z.2.2⟩,ob,es,ep,k _ _ (.inl rfl) e,c⟩
 |set S n=>obtain⟨ob,es,ep,t,e,c⟩:=x;exact⟨ob,es,ep,t,k _ _ (.inl rfl) e,c⟩
 |ins C dx fs=>
  obtain⟨d,z,ne,e,mA,⟨od,es,ep,e2,c⟩,r⟩:=x;exact⟨ho _ d,z,ne,k _ _ (.inl rfl) e,mA,⟨od,es,ep,k _ _ (.inr d) e2,c⟩,r⟩
 |own y=>obtain⟨ob,e⟩:=x;exact⟨ob,k _ _ (.inl rfl) e⟩
 |xd fs=>obtain⟨mA,⟨od,es,ep,e,c⟩,r⟩:=x;exact⟨mA,⟨od,es,ep,k _ _ (.inl rfl) e,c⟩,r⟩
 |rng lo hi=>obtain⟨t,u,v,e⟩:=x;exact⟨t,u,v,k _ _ (.inl rfl) e⟩
 |frz ob u ih=>obtain⟨e,q⟩:=x;exact⟨k _ _ (.inl rfl) e,ih q⟩
 |tbl ps=>
  have e:h.get? a=some { cls:=.none,data:=.fields ps }:=x;show h'.get? a=some { cls:=.none,data:=.fields ps };exact k a _ (.inl rfl) e
 |met f y=>
  have e:h.get? a=some (PySem.W.methodObj (.ref f) (.ref y)):=x;show h'.get? a=some (PySem.W.methodObj (.ref f) (.ref y));exact k a _ (.inl rfl) e
 |ext φ=>obtain⟨p,⟨o,e⟩,st⟩:=x;exact⟨st _ _ p λo q=>k _ _ (.inl rfl) q,⟨o,k _ _ (.inl rfl) e⟩,st⟩
theorem HOk.lt(x:HOk P w H h)(e:H a=some o):a<h.objs.size:=(x a o e).lt
theorem HOk.fresh(x:HOk P w H h)(e:h.objs.size<=a):H a=none:=by
 cases q:H a with
 |none=>rfl
 |some u=>exact absurd (wH (x.lt q) e) (wl _)
theorem HOk.kept(x:HOk P w H h)(k:∀b u,h.get? b=some u->h'.get? b=some u):HOk P w H h':=λa o e=>
 (x a o e).stay (λb u _ q=>k b u q) (λ_ q=>q) λ_ _ q=>q
theorem HOk.laid(x:HOk P w H h)(k:∀b u,h.get? b=some u->h'.get? b=some u)(hp:h.objs.size<=a)(new:ObjOk P w (upd H a o) h' a o):HOk P w (upd H a o) h':=λb u e=>by
 have hn:=x.fresh hp;by_cases hb:b=a
 ·subst hb;rw[upd_same]at e;cases e;exact new
 ·rw[upd_ne hb]at e;exact(x b u e).stay (λc v _ q=>k c v q) (λc q=>by rw[upd_ne (ne_of_none q hn)];exact q) λc xs q=>by rw[upd_ne (ne_of_none q hn)];exact q
end
def Rd(H:Hp)(a:Addr)(u:HO):Prop:=H a=some u\/∃o,H a=some (.frz o u)
theorem Rd.ok{P:Program}{w:World}{H:Hp}{h:Heap}{a:Addr}{u:HO}(r:Rd H a u)(x:HOk P w H h):ObjOk P w H h a u:=by
 rcases r with r|⟨o,r⟩
 ·exact x a u r
 ·obtain⟨_,q⟩:=x a _ r;exact q
def Mut:Option HO->Prop
 |some (.lst _)=>True
 |some (.dK _)=>True
 |some (.dT _)=>True
 |some (.set _ _)=>True
 |some (.ins _ _ _)=>True
 |some (.ext _)=>True
 |_=>False
section
variable{P:Program}{w:World}{H:Hp}{h h':Heap}{x e:Addr}{o':HO}
theorem HOk.write(ok:HOk P w H h)(mu:Mut (H x))(he:e=x\/H e=some (.own x))(k:∀b u,b≠e->h.get? b=some u->h'.get? b=some u)(heo:∃u,h'.get? e=some u)
  (new:ObjOk P w (upd H x o') h' x o'):HOk P w (upd H x o') h':=λb u q=>by
 have nown:∀c y,H c=some (.own y)->c≠x:=λc y r z=>by subst z;rw[r]at mu;exact mu
 have ntup:∀c xs,H c=some (.tup xs)->c≠x:=λc xs r z=>by subst z;rw[r]at mu;exact mu
 by_cases hb:b=x
 ·subst hb;rw[upd_same]at q;cases q;exact new
 ·rw[upd_ne hb]at q;by_cases hbe:b=e
  ·have q':H b=some (.own x):=by
    rcases he with z|z
    ·exact absurd (hbe.trans z) hb
    ·rw[hbe];exact z
   rw[q]at q';cases q';obtain⟨v,hv⟩:=heo;exact⟨v,by rw[hbe];exact hv⟩
  ·refine(ok b u q).stay (λc v hc r=>k c v ?_ r) (λc r=>by rw[upd_ne (nown c b r)];exact r) λc xs r=>by rw[upd_ne (ntup c xs r)];exact r
   rcases hc with rfl|hc
   ·exact hbe
   ·rintro rfl;rcases he with z|z
    ·exact nown c b hc z
    ·rw[hc]at z;cases z;exact hb rfl
end
structure Un(fs ex:List Addr)(H H':Hp)(h h':Heap):Prop where
 keep:∀b o,h.get? b=some o->H b=none->b∉fs->b∉ex->h'.get? b=some o
 slot:∀b o,h.get? b=some o->H b=none->b∈fs->b∉ex->∃sl,h'.get? b=some { o with slots:=sl }
 free:∀b o,h.get? b=some o->H b=none->b∉ex->H' b=none
 there:∀b o,h.get? b=some o->b∉ex->∃o',h'.get? b=some o'
 tups:∀b xs,H b=some (.tup xs)->H' b=some (.tup xs)
 frzs:∀b o u,H b=some (.frz o u)->H' b=some (.frz o u)
 tbls:∀b ps,H b=some (.tbl ps)->∃more,H' b=some (.tbl (ps++more))
section
variable{fs fs' ex ex':List Addr}{H H1 H2:Hp}{h h1 h2 h':Heap}{a x e:Addr}{o:HO}
theorem Un.any(u:Un fs ex H H1 h h1){b:Addr}{ob:Obj}(q:h.get? b=some ob)(n:H b=none)(hx:b∉ex):∃sl,h1.get? b=some { ob with slots:=sl }:=by
 by_cases hb:b∈fs
 ·exact u.slot b ob q n hb hx
 ·exact⟨ob.slots,u.keep b ob q n hb hx⟩
theorem Un.kept(k:∀b u,h.get? b=some u->h'.get? b=some u):Un fs ex H H h h':=
 ⟨λb ob q _ _ _=>k b ob q,λb ob q _ _ _=>⟨ob.slots,k b ob q⟩,λ_ _ _ n _=>n,λb ob q _=>⟨ob,k b ob q⟩,λ_ _ q=>q,λ_ _ _ q=>q,λ_ ps q=>⟨#[],by rw[q];simp⟩⟩
theorem Un.refl:Un fs ex H H h h:=Un.kept λ_ _ q=>q
theorem Un.laid(k:∀b u,h.get? b=some u->h'.get? b=some u)(hp:h.objs.size<=a)(hn:H a=none):Un fs ex H (upd H a o) h h' where
 keep:=λb u q _ _ _=>k b u q
 slot:=λb u q _ _ _=>⟨u.slots,k b u q⟩
 free:=λb u q n _=>by rw[upd_ne (wX (wH (Heap.lt_size q) hp))];exact n
 there:=λb u q _=>⟨u,k b u q⟩
 tups:=λb xs q=>by rw[upd_ne (ne_of_none q hn)];exact q
 frzs:=λb u xs q=>by rw[upd_ne (ne_of_none q hn)];exact q
 tbls:=λb ps q=>⟨#[],by rw[upd_ne (ne_of_none q hn),q];simp⟩
theorem Un.write(mu:Mut (H x))(he:e=x\/H e=some (.own x))(k:∀b u,b≠e->h.get? b=some u->h'.get? b=some u)(heo:∃u,h'.get? e=some u):Un fs ex H (upd H x o) h h':=by
 have hx:∀b,H b=none->b≠x:=λb n z=>by subst z;rw[n]at mu;exact mu
 have hb:∀b,H b=none->b≠e:=λb n z=>by
  subst z;rcases he with r|r
  ·exact hx b n r
  ·rw[n]at r;cases r
 have hm:∀b u,H b=some u->¬ Mut (some u)->b≠x:=λb u q nm z=>by subst z;rw[q]at mu;exact nm mu
 refine⟨λb u q n _ _=>k b u (hb b n) q,λb u q n _ _=>⟨u.slots,k b u (hb b n) q⟩,λb u q n _=>by rw[upd_ne (hx b n)];exact n,λb u q _=>?_,
  λb xs q=>by rw[upd_ne (hm b _ q λz=>z)];exact q,λb u xs q=>by rw[upd_ne (hm b _ q λz=>z)];exact q,λb ps q=>⟨#[],by rw[upd_ne (hm b _ q λz=>z),q];simp⟩⟩
 by_cases hbe:b=e
 ·subst hbe;exact heo
 ·exact⟨u,k b u hbe q⟩
end
noncomputable def trk(h:Heap)(H:Hp):List Addr:=(List.range h.objs.size).filter λa=>(H a).isSome
noncomputable def w5(h:Heap)(H:Hp):Heap:=PySem.W.hideAll h (trk h H)
theorem i5(h:Heap)(H:Hp):(w5 h H).objs.size=h.objs.size:=PySem.W.hideAll_size _ _
theorem qAH{h:Heap}{H:Hp}{b:Addr}{o:Obj}(e:h.get? b=some o)(n:H b=none):(w5 h H).get? b=some o:=
 PySem.W.hideAll_get _ e λhm=>by
  have q:(H b).isSome=true:=(vC.mp hm).2;rw[n]at q;simp at q
theorem qB4{h:Heap}{H:Hp}{b:Addr}{o:Obj}(e:(w5 h H).get? b=some o):h.get? b=some o/\H b=none:=by
 have e':h.get? b=some o:=PySem.W.of_hideAll (trk h H) e;refine⟨e',?_⟩;cases q:H b with
 |none=>rfl
 |some x=>
  have hm:b∈trk h H:=vC.mpr ⟨wY.mpr (Heap.lt_size e'),by simp[q]⟩;have z:(w5 h H).get? b=none:=PySem.W.hideAll_none (trk h H) hm;rw[z]at e;cases e
noncomputable def qCy(g h:Heap)(L:Addr):List (Addr×Obj):=(List.range h.objs.size).filterMap λa=>if a=L\/(g.get? a).isSome=true then none else (h.get? a).map λo=>(a,o)
noncomputable def QD(g h:Heap)(L d:Addr):List (Addr×Obj):=(qCy g h L).filter λp=>decide (p.1≠d)
structure Mod(K:PySem.W.Frag)(mg:Str->Option Value)(base:Heap):Prop where
 kin:K.In base
 glob:base.Ns mainGlobals mg
 blt:∃mb,base.Ns builtinsNs mb/\∀x:Str,x≠"__name__" -> mb x=bootBuiltins x
 nolimit:base.NoLimit
set_option genInjectivity false in structure Cx where
 prog:Program
 w:World
 K:PySem.W.Frag
 mg:Str->Option Value
 base:Heap
 A:Around
 N:List Str
 s₀:Shared
 H₀:Hp
 env:Env
 outer:List Env
 stack:List Env
 ex:List Addr
 fn:Str->Bool
 calm:Bool
 pn:List (Addr×Obj)
 xe:Value->Shared->Prop
noncomputable def frs(l:List Env):List Addr:=l.filterMap (·.frame)
noncomputable abbrev Cx.fs(X:Cx):List Addr:=frs X.outer
def Vis(sc:Scope)(x:Str):Prop:=sc.names.lookup x=some .local\/sc.names.lookup x=some .cell\/sc.names.lookup x=some .free
def Loc(sc:Scope)(x:Str):Prop:=sc.names.lookup x=some .local\/sc.names.lookup x=some .cell
def qH2(env:Env)(h:Heap)(m:Str->Option Value)(x:Str)(u:Value):Prop:=
 (env.kindOf x=some .local/\m x=some u)\/((env.kindOf x=some .cell\/env.kindOf x=some .free)/\∃c,env.cells.lookup x=some c/\h.IsCell c (some u))
structure Cx.Ok(X:Cx):Prop where
 mod:Mod X.K X.mg X.base
 kind:X.env.scope.kind=.function
 glob:X.env.globals=mainGlobals
 blt:X.env.builtins=builtinsNs
 above:X.s₀.heap.objs.size<=X.env.locals
 inj:∀x y c,X.env.cells.lookup x=some c->X.env.cells.lookup y=some c->x=y
 has:∀x,(X.env.kindOf x=some .cell\/X.env.kindOf x=some .free)->∃c,X.env.cells.lookup x=some c
 cab:∀x c,X.fn x=true->X.env.cells.lookup x=some c->X.s₀.heap.objs.size<=c
 hd:X.calm=true->X.A.handled=none
 frames:X.A.frames=some X.stack
 stk:X.stack=X.outer\/(X.stack=X.env::X.outer/\X.env.frame=some X.env.locals)
 exf:∀b∈X.ex,b≠X.env.locals/\∀x c,X.env.cells.lookup x=some c->c≠b
 bs:∀b o,X.base.get? b=some o->X.s₀.heap.get? b=some o/\X.H₀ b=none
 bsz:X.base.objs.size<=X.s₀.heap.objs.size
 noex:∀b o,X.base.get? b=some o->b∉X.ex
 exfs:∀b∈X.ex,b∉X.fs
 funs:X.s₀.heap.FunFrames X.base X.outer
 frf:∀b∈X.fs,X.H₀ b=none
structure Inv(X:Cx)(pins:List (Addr×Obj))(σ:List (Option V))(H:Hp)(s:Shared):Prop where
 ok:X.Ok
 os:s.os=X.s₀.os
 bare:AllBare s.gens
 base:Un X.fs X.ex X.H₀ H X.s₀.heap s.heap
 loc:∃m,s.heap.Ns X.env.locals m/\∀(i:Nat) (x:Str) (v:V),X.N[i]?=some x->σ[i]?=some (some v)->Vis X.env.scope x->∃u,RelV v u/\qH2 X.env s.heap m x u
 cell:∀x c,X.env.cells.lookup x=some c->∃v,s.heap.IsCell c v
 free:H X.env.locals=none
 freeC:∀x c,X.env.cells.lookup x=some c->H c=none
 pin:∀p∈X.pn++pins,s.heap.get? p.1=some p.2/\H p.1=none/\p.1≠X.env.locals/\p.1∉X.fs/\∀v,p.2.data≠.cell v
 hok:HOk X.prog X.w H s.heap
 len:σ.length=X.N.length
section
variable{X:Cx}{pins:List (Addr×Obj)}{σ:List (Option V)}{H H':Hp}{s:Shared}{h':Heap}
theorem Cx.Ok.nofr(ok:X.Ok){b:Addr}{o:Obj}(e:X.base.get? b=some o):b∉X.fs:=λhb=>by
 have:=(ok.funs.mem hb).1;rw[e]at this;cases this
theorem Inv.bs(I:Inv X pins σ H s):∀b o,X.base.get? b=some o->s.heap.get? b=some o/\H b=none:=λb o e=>
 ⟨I.base.keep b o (I.ok.bs b o e).1 (I.ok.bs b o e).2 (I.ok.nofr e) (I.ok.noex b o e),I.base.free b o (I.ok.bs b o e).1 (I.ok.bs b o e).2 (I.ok.noex b o e)⟩
theorem Inv.bk(I:Inv X pins σ H s):∀b o,X.base.get? b=some o->s.heap.get? b=some o:=λb o e=>(I.bs b o e).1
theorem Inv.mod(I:Inv X pins σ H s):Mod X.K X.mg X.base:=I.ok.mod
theorem Inv.kIn(I:Inv X pins σ H s):X.K.In s.heap:=I.ok.mod.kin.keeps I.bk
theorem Inv.lt(I:Inv X pins σ H s):X.env.locals<s.heap.objs.size:=let ⟨_,hn,_⟩:=I.loc;hn.lt
theorem Inv.sz(I:Inv X pins σ H s):X.s₀.heap.objs.size<=s.heap.objs.size:=wG I.ok.above (vF I.lt)
theorem Inv.nofs(I:Inv X pins σ H s){a:Addr}(h:s.heap.objs.size<=a):a∉X.fs:=λhb=>by
 obtain⟨_,o,ho,_⟩:=I.ok.funs.mem hb;exact absurd (wH (Heap.lt_size ho) (wG I.sz h)) (wl _)
theorem Inv.cne(I:Inv X pins σ H s):∀x c,X.env.cells.lookup x=some c->c≠X.env.locals:=λx c e z=>by
 obtain⟨v,o,ho,hd⟩:=I.cell x c e;obtain⟨m,⟨o',es,ep,ho',hd',_⟩,_⟩:=I.loc;rw[z,ho']at ho;cases ho;rw[hd']at hd;cases hd
theorem Inv.funs(I:Inv X pins σ H s):s.heap.FunFrames X.base X.outer:=by
 have all:∀(l:List Env),(∀b∈frs l,b∈X.fs)->X.s₀.heap.FunFrames X.base l->s.heap.FunFrames X.base l:=by
  intro l
  induction l with
  |nil=>intro _ _;trivial
  |cons env r ih=>
   intro hs hl;obtain⟨hk,⟨L,o,hf,hn,ho,hd⟩,hr⟩:=hl;have hL:L∈X.fs:=hs L (by unfold frs;rw[wv,hf];exact wM);obtain⟨sl,e⟩:=I.base.slot L o ho (I.ok.frf L hL) hL λz=>I.ok.exfs L z hL;exact⟨hk,⟨L,_,hf,hn,e,hd⟩,ih (λb hb=>hs b (by unfold frs;rw[wv,hf];exact wI _ hb)) hr⟩
 exact all X.outer (λ_ hb=>hb) I.ok.funs
theorem Inv.stack(I:Inv X pins σ H s):s.heap.FunFrames X.base X.stack:=by
 rcases I.ok.stk with e|⟨e,hf⟩
 ·rw[e];exact I.funs
 ·rw[e];obtain⟨m,hn,_⟩:=I.loc;refine .cons (by rw[I.ok.kind];decide) hf hn ?_ I.funs;exact Heap.get?_none_of_le (wG I.ok.bsz I.ok.above)
theorem Inv.stkSub(I:Inv X pins σ H s):∀b∈frs X.stack,b∈X.env.locals::X.fs:=λb hb=>by
 rcases I.ok.stk with e|⟨e,hf⟩
 ·rw[e]at hb;exact wI _ hb
 ·rw[e]at hb;unfold frs at hb;rw[wv,hf]at hb;exact hb
theorem Inv.stkFree(I:Inv X pins σ H s):∀b∈frs X.stack,H b=none:=λb hb=>by
 rcases wL.mp (I.stkSub b hb) with e|hb
 ·rw[e];exact I.free
 ·obtain⟨_,o,ho,_⟩:=I.ok.funs.mem hb;exact I.base.free b o ho (I.ok.frf b hb) λz=>I.ok.exfs b z hb
theorem Inv.step{g':Array GenState}{t':Nat}{d':Drawn}{ch:List Addr}(I:Inv X pins σ H s)
  (hch:∀b∈ch,(b∈X.ex\/X.s₀.heap.objs.size<=b)/\b≠X.env.locals/\(∀x c,X.env.cells.lookup x=some c->c≠b)/\∀p∈X.pn++pins,p.1≠b)
  (keep:∀b o,b≠X.env.locals->b∉X.fs->b∉ch->s.heap.get? b=some o->H b=none->h'.get? b=some o)
  (slot:∀b o,b≠X.env.locals->b∈X.fs->b∉ch->s.heap.get? b=some o->H b=none->∃sl,h'.get? b=some { o with slots:=sl }) (free:∀b o,b∉ch->s.heap.get? b=some o->H b=none->H' b=none)
  (there:∀b o,b∉ch->s.heap.get? b=some o->∃o',h'.get? b=some o')
  (tups:∀b xs,H b=some (.tup xs)->H' b=some (.tup xs)) (frzs:∀b o u,H b=some (.frz o u)->H' b=some (.frz o u)) (tbls:∀b ps,H b=some (.tbl ps)->∃more,H' b=some (.tbl (ps++more)))
  (ns:∀m,s.heap.Ns X.env.locals m->h'.Ns X.env.locals m) (hok:HOk X.prog X.w H' h') (hg:AllBare g'):
  Inv X pins σ H' { s with heap:=h',gens:=g',drawn:=d',toks:=t' }:=by
 have neL:∀b o,X.s₀.heap.get? b=some o->b≠X.env.locals:=λb o e=>wX (wH (Heap.lt_size e) I.ok.above);have neC:∀b o,X.s₀.heap.get? b=some o->b∉X.ex->b∉ch:=λb o e hx hb=>by
  rcases(hch b hb).1 with z|z
  ·exact hx z
  ·exact absurd (wH (Heap.lt_size e) z) (wl _)
 have cellK:∀x c,X.env.cells.lookup x=some c->∀v,s.heap.IsCell c v->h'.IsCell c v:=λx c e v ⟨o,ho,hd⟩=>by
  have nch:c∉ch:=λz=>(hch c z).2.2.1 x c e rfl;by_cases hc:c∈X.fs
  ·obtain⟨sl,q⟩:=slot c o (I.cne x c e) hc nch ho (I.freeC x c e);exact⟨_,q,hd⟩
  ·exact⟨o,keep c o (I.cne x c e) hc nch ho (I.freeC x c e),hd⟩
 refine⟨I.ok,I.os,hg,⟨λb o e n hb hx=>?_,λb o e n hb hx=>?_,λb o e n hx=>?_,λb o e hx=>?_,λb xs e=>tups b xs (I.base.tups b xs e),λb o xs e=>frzs b o xs (I.base.frzs b o xs e),λb ps e=>?_⟩,?_,λx c e=>?_,?_,λx c e=>?_,λp hp=>?_,hok,I.len⟩
 ·exact keep b o (neL b o e) hb (neC b o e hx) (I.base.keep b o e n hb hx) (I.base.free b o e n hx)
 ·obtain⟨sl,e1⟩:=I.base.slot b o e n hb hx;obtain⟨sl',e2⟩:=slot b _ (neL b o e) hb (neC b o e hx) e1 (I.base.free b o e n hx);exact⟨sl',e2⟩
 ·obtain⟨o',e1⟩:=I.base.there b o e hx;exact free b o' (neC b o e hx) e1 (I.base.free b o e n hx)
 ·obtain⟨o',e1⟩:=I.base.there b o e hx;exact there b o' (neC b o e hx) e1
 ·obtain⟨m1,e1⟩:=I.base.tbls b ps e;obtain⟨m2,e2⟩:=tbls b _ e1;exact⟨m1++m2,by rw[e2,Array.append_assoc]⟩
 ·obtain⟨m,hn,hl⟩:=I.loc;refine⟨m,ns m hn,λi x v e1 e2 e3=>?_⟩;obtain⟨u,r,l⟩:=hl i x v e1 e2 e3;refine⟨u,r,?_⟩;rcases l with l|⟨k,c,e,z⟩
  ·exact .inl l
  ·exact .inr ⟨k,c,e,cellK x c e _ z⟩
 ·obtain⟨v,z⟩:=I.cell x c e;exact⟨v,cellK x c e v z⟩
 ·obtain⟨m,⟨o,_,_,ho,_⟩,_⟩:=I.loc;exact free _ o (λz=>(hch _ z).2.1 rfl) ho I.free
 ·obtain⟨v,o,ho,hd⟩:=I.cell x c e;exact free c o (λz=>(hch c z).2.2.1 x c e rfl) ho (I.freeC x c e)
 ·obtain⟨e,n,ne,nf,d⟩:=I.pin p hp;have nch:p.1∉ch:=λz=>(hch p.1 z).2.2.2 p hp rfl;exact⟨keep p.1 p.2 ne nf nch e n,free p.1 p.2 nch e n,ne,nf,d⟩
theorem Inv.un{t':Nat}(I:Inv X pins σ H s)(u:Un X.fs [] H H' s.heap h')(hok:HOk X.prog X.w H' h'):Inv X pins σ H' { s with heap:=h',toks:=t' }:=by
 obtain⟨m,⟨o,es,ep,ho,r⟩,_⟩:=id I.loc;obtain⟨sl,hL⟩:=u.any ho I.free (by simp);exact I.step (g':=s.gens) (d':=s.drawn) (ch:=[]) (λ_ z=>nomatch z) (λb o _ hb _ e n=>u.keep b o e n hb (by simp)) (λb o _ hb _ e n=>u.slot b o e n hb (by simp)) (λb o _ e n=>u.free b o e n (by simp)) (λb o _ e=>u.there b o e (by simp)) u.tups u.frzs u.tbls (λm' hm=>by
  obtain⟨o',es',ep',ho',r'⟩:=hm;rw[ho]at ho';cases ho';exact⟨_,es',ep',hL,r'⟩) hok I.bare
theorem Inv.call{g':Array GenState}{t':Nat}{d':Drawn}{ch:List Addr}(I:Inv X pins σ H s)(u:Un (frs X.stack) ch H H' s.heap h')(hok:HOk X.prog X.w H' h')(hg:AllBare g')
  (hch:∀b∈ch,(b∈X.ex\/X.s₀.heap.objs.size<=b)/\b≠X.env.locals/\(∀x c,X.env.cells.lookup x=some c->c≠b)/\∀p∈X.pn++pins,p.1≠b):
  Inv X pins σ H' { s with heap:=h',gens:=g',drawn:=d',toks:=t' }:=by
 obtain⟨m,⟨o,es,ep,ho,r⟩,_⟩:=id I.loc;obtain⟨sl,hL⟩:=u.any ho I.free λz=>(hch _ z).2.1 rfl;exact I.step (ch:=ch) hch (λb o hL hb hc e n=>u.keep b o e n (λz=>(wL.mp (I.stkSub b z)).elim hL hb) hc) (λb o _ _ hc e n=>u.any e n hc) (λb o hc e n=>u.free b o e n hc) (λb o hc e=>u.there b o e hc) u.tups u.frzs u.tbls (λm' hm=>by
  obtain⟨o',es',ep',ho',r'⟩:=hm;rw[ho]at ho';cases ho';exact⟨_,es',ep',hL,r'⟩) hok hg
theorem Inv.turned{t':Nat}{it:Addr}(I:Inv X pins σ H s)(k:∀b o,b≠it->s.heap.get? b=some o->h'.get? b=some o)(hn:H it=none)(hL:it≠X.env.locals)
  (h1:it∈X.ex\/X.s₀.heap.objs.size<=it) (h2:∀x c,X.env.cells.lookup x=some c->c≠it) (h3:∀p∈X.pn++pins,p.1≠it):Inv X pins σ H { s with heap:=h',toks:=t' }:=by
 have nit:∀b u,H b=some u->b≠it:=λb u e z=>by rw[z,hn]at e;cases e
 refine I.step (g':=s.gens) (d':=s.drawn) (ch:=[it]) (λb hb=>?_) (λb o _ _ hc e _=>k b o (λz=>hc (by simp[z])) e) (λb o _ _ hc e _=>⟨o.slots,k b o (λz=>hc (by simp[z])) e⟩) (λ_ _ _ _ n=>n)
  (λb o hc e=>⟨o,k b o (λz=>hc (by simp[z])) e⟩) (λ_ _ e=>e) (λ_ _ _ e=>e) (λb ps e=>⟨#[],by rw[e];simp⟩) (λm hm=>?_) (λb u e=>?_) I.bare
 ·have e:b=it:=by simpa using hb
  subst e;exact⟨h1,hL,h2,h3⟩
 ·obtain⟨o,es,ep,ho,r⟩:=hm;exact⟨o,es,ep,k _ o (Ne.symm hL) ho,r⟩
 ·refine(I.hok b u e).stay (λc v hc q=>k c v ?_ q) (λ_ q=>q) λ_ _ q=>q;rcases hc with z|z
  ·rw[z];exact nit b u e
  ·exact nit c _ z
theorem Inv.tok(I:Inv X pins σ H s)(t:Nat):Inv X pins σ H { s with toks:=t }:=I.un (h':=s.heap) (t':=t) Un.refl I.hok
theorem Inv.kept{t':Nat}(I:Inv X pins σ H s)(k:∀b u,s.heap.get? b=some u->h'.get? b=some u):Inv X pins σ H { s with heap:=h',toks:=t' }:=I.un (Un.kept k) (I.hok.kept k)
theorem Inv.laid{a:Addr}{o:HO}{t':Nat}(I:Inv X pins σ H s)(k:∀b u,s.heap.get? b=some u->h'.get? b=some u)(hp:s.heap.objs.size<=a)(new:ObjOk X.prog X.w (upd H a o) h' a o):
  Inv X pins σ (upd H a o) { s with heap:=h',toks:=t' }:=I.un (Un.laid k hp (I.hok.fresh hp)) (I.hok.laid k hp new)
theorem Inv.write{x e:Addr}{o:HO}{t':Nat}(I:Inv X pins σ H s)(mu:Mut (H x))(he:e=x\/H e=some (.own x))(k:∀b u,b≠e->s.heap.get? b=some u->h'.get? b=some u)(heo:∃u,h'.get? e=some u)
  (new:ObjOk X.prog X.w (upd H x o) h' x o):Inv X pins σ (upd H x o) { s with heap:=h',toks:=t' }:=I.un (Un.write mu he k heo) (I.hok.write mu he k heo new)
theorem Inv.pins_of{pins':List (Addr×Obj)}(I:Inv X pins σ H s)(h:∀p∈pins',s.heap.get? p.1=some p.2/\H p.1=none/\p.1≠X.env.locals/\p.1∉X.fs/\∀v,p.2.data≠.cell v):Inv X pins' σ H s:=
 ⟨I.ok,I.os,I.bare,I.base,I.loc,I.cell,I.free,I.freeC,λp hp=>(wJ.mp hp).elim (λz=>I.pin p (wP _ z)) (h p),I.hok,I.len⟩
theorem nodup_ix{N:List Str}(hN:N.Nodup){i j:Nat}{x:Str}(a:N[i]?=some x)(b:N[j]?=some x):i=j:=by
 obtain⟨h1,e1⟩:=wB.mp a;obtain⟨h2,e2⟩:=wB.mp b;exact(List.getElem_inj hN).mp (e1.trans e2.symm)
theorem A9{M:Model}{A:Around}{E:Value->Shared->Prop}{i:Nat}{x:Str}{v:V}{u:Value}{Q:Unit->Shared->Prop}(I:Inv X pins σ H s)(hN:X.N.Nodup)(hi:X.N[i]?=some x)(hx:Loc X.env.scope x)(r:RelV v u)
  (h:∀s',Inv X pins (σ.set i (some v)) H s'->(∃a,Heap.SameBut a s.heap s'.heap/\(a=X.env.locals\/X.env.cells.lookup x=some a))->Q () s') (hf:X.fn x=true\/X.env.scope.names.lookup x=some .local:=by first|exact .inl rfl|exact .inr rfl|assumption):wpAny M A (storeName X.env x u) Q E s:=by
 obtain⟨m,hn,hl⟩:=id I.loc;have hcls:(X.env.scope.kind==.class||(X.env.scope.kind==.module&&X.env.locals != X.env.globals))=false:=by rw[I.ok.kind];rfl
 have hiσ:i<σ.length:=by rw[I.len];exact(wB.mp hi).1
 have cne:=I.cne;have tracked:∀{a:Addr}{h':Heap},(∃o,s.heap.get? a=some o/\H a=none)->Heap.SameBut a s.heap h'->HOk X.prog X.w H h':=λ{a h'} ha hs b ob e=>by
  obtain⟨_,_,hfree⟩:=ha;refine(I.hok b ob e).stay (λc w' hc q=>(hs.2 c ?_).trans q) (λ_ q=>q) λ_ _ q=>q;rintro rfl;rcases hc with rfl|hc
  ·rw[hfree]at e;cases e
  ·rw[hfree]at hc;cases hc
 rcases hx with hk|hk
 ·refine wpAny_storeName_local hk hn (λh' hn' hs=>?_) hcls;obtain⟨oL,_,_,hoL,_⟩:=id hn;refine h _ ⟨I.ok,I.os,I.bare,⟨λb o e n hb hx=>?_,λb o e n hb hx=>?_,I.base.free,λb o e hx=>?_,I.base.tups,I.base.frzs,I.base.tbls⟩,⟨_,hn',λj y v' e1 e2 e3=>?_⟩,λy c e=>?_,I.free,I.freeC,λp hp=>?_,tracked ⟨oL,hoL,I.free⟩ hs,by simpa using I.len⟩ ⟨_,hs,.inl rfl⟩
  ·exact(hs.2 b (wX (wH (Heap.lt_size e) I.ok.above))).trans (I.base.keep b o e n hb hx)
  ·obtain⟨sl,e1⟩:=I.base.slot b o e n hb hx;exact⟨sl,(hs.2 b (wX (wH (Heap.lt_size e) I.ok.above))).trans e1⟩
  ·obtain⟨o',e1⟩:=I.base.there b o e hx;exact⟨o',(hs.2 b (wX (wH (Heap.lt_size e) I.ok.above))).trans e1⟩
  ·by_cases hj:j=i
   ·subst hj;rw[hi]at e1;cases e1;rw[wn hiσ]at e2;cases e2;exact⟨u,r,.inl ⟨hk,by simp⟩⟩
   ·rw[wW (Ne.symm hj)]at e2;obtain⟨u',r',q⟩:=hl j y v' e1 e2 e3;refine⟨u',r',?_⟩;rcases q with⟨k,e⟩|⟨k,c,e,z⟩
    ·refine .inl ⟨k,?_⟩;have:y≠x:=λe=>hj (nodup_ix hN e1 (e ▸ hi));simp[this,e]
    ·exact .inr ⟨k,c,e,z.sameBut hs (cne y c e)⟩
  ·obtain⟨w',z⟩:=I.cell y c e;exact⟨w',z.sameBut hs (cne y c e)⟩
  ·obtain⟨e,n,ne,nf,d⟩:=I.pin p hp;exact⟨(hs.2 p.1 ne).trans e,n,ne,nf,d⟩
 ·have hfn:X.fn x=true:=by
   rcases hf with z|z
   ·exact z
   ·rw[z]at hk;cases hk
  obtain⟨c,hc⟩:=I.ok.has x (.inl hk);obtain⟨w',z⟩:=I.cell x c hc;refine wpAny_storeName_cell I.ok.kind hk hc z (λh' hc' hs=>?_);obtain⟨oc,hoc,hocd⟩:=id z;refine h { s with heap:=h' } ⟨I.ok,I.os,I.bare,⟨λb o e n hb hx=>?_,λb o e n hb hx=>?_,I.base.free,λb o e hx=>?_,I.base.tups,I.base.frzs,I.base.tbls⟩,⟨m,hn.sameBut hs (Ne.symm (cne x c hc)),λj y v' e1 e2 e3=>?_⟩,λy c' e=>?_,I.free,I.freeC,λp hp=>?_,tracked ⟨oc,hoc,I.freeC x c hc⟩ hs,by simpa using I.len⟩ ⟨c,hs,.inr hc⟩
  ·exact(hs.2 b (wX (wH (Heap.lt_size e) (I.ok.cab x c hfn hc)))).trans (I.base.keep b o e n hb hx)
  ·obtain⟨sl,e1⟩:=I.base.slot b o e n hb hx;exact⟨sl,(hs.2 b (wX (wH (Heap.lt_size e) (I.ok.cab x c hfn hc)))).trans e1⟩
  ·obtain⟨o',e1⟩:=I.base.there b o e hx;exact⟨o',(hs.2 b (wX (wH (Heap.lt_size e) (I.ok.cab x c hfn hc)))).trans e1⟩
  ·by_cases hj:j=i
   ·subst hj;rw[hi]at e1;cases e1;rw[wn hiσ]at e2;cases e2;exact⟨u,r,.inr ⟨.inl hk,c,hc,hc'⟩⟩
   ·rw[wW (Ne.symm hj)]at e2;obtain⟨u',r',q⟩:=hl j y v' e1 e2 e3;refine⟨u',r',?_⟩;rcases q with q|⟨k,c',e,z'⟩
    ·exact .inl q
    ·refine .inr ⟨k,c',e,z'.sameBut hs ?_⟩;rintro rfl;exact hj (nodup_ix hN e1 (I.ok.inj _ _ _ e hc ▸ hi))
  ·by_cases hcc:c'=c
   ·subst hcc;exact⟨_,hc'⟩
   ·obtain⟨w2,z2⟩:=I.cell y c' e;exact⟨w2,z2.sameBut hs hcc⟩
  ·obtain⟨e,n,ne,nf,d⟩:=I.pin p hp;refine⟨(hs.2 p.1 ?_).trans e,n,ne,nf,d⟩;intro q;rw[q,hoc]at e;have q':oc=p.2:=Option.some.inj e;exact d w' (by rw[<-q'];exact hocd)
theorem store_ok{M:Model}{A:Around}{E:Value->Shared->Prop}{i:Nat}{x:Str}{v:V}{u:Value}{Q:Unit->Shared->Prop}(I:Inv X pins σ H s)(hN:X.N.Nodup)(hi:X.N[i]?=some x)(hx:Loc X.env.scope x)(r:RelV v u)
  (h:∀s',Inv X pins (σ.set i (some v)) H s'->Q () s') (hf:X.fn x=true\/X.env.scope.names.lookup x=some .local:=by first|exact .inl rfl|exact .inr rfl|assumption):wpAny M A (storeName X.env x u) Q E s:=
 A9 I hN hi hx r (λs' I' _=>h s' I') hf
theorem Inv.call'{s':Shared}{ch:List Addr}(I:Inv X pins σ H s)(ho:s'.os=s.os)(u:Un (frs X.stack) ch H H' s.heap s'.heap)(hok:HOk X.prog X.w H' s'.heap)(hg:AllBare s'.gens)
  (hch:∀b∈ch,(b∈X.ex\/X.s₀.heap.objs.size<=b)/\b≠X.env.locals/\(∀x c,X.env.cells.lookup x=some c->c≠b)/\∀p∈X.pn++pins,p.1≠b):Inv X pins σ H' s':=by
 obtain⟨h',g',d',t',o'⟩:=s';have e:o'=s.os:=ho;subst e;exact I.call (g':=g') (t':=t') (d':=d') u hok hg hch
end
noncomputable abbrev XK:=Value->Option Addr->Hp->Prop
noncomputable abbrev St:=List (Option V)
noncomputable abbrev VK:=V->Hp->Prop
noncomputable abbrev TE:=St->Hp->VK->Prop
noncomputable abbrev TT:=St->Hp->(Bool->Hp->Prop)->Prop
noncomputable abbrev TA:=St->Hp->(List V->Hp->Prop)->Prop
set_option genInjectivity false in structure B6 where
 nx:St->Hp->Prop
 rt:VK
 bk:St->Hp->Prop:=λ_ _=>False
 ct:St->Hp->Prop:=λ_ _=>False
noncomputable abbrev TS:=B6->St->Hp->Prop
def EP(X:Cx)(pins:List (Addr×Obj))(σ:St)(Q:VK)(u:Value)(s':Shared):Prop:=∃v H',Inv X pins σ H' s'/\RelV v u/\Q v H'
def TP(X:Cx)(pins:List (Addr×Obj))(σ:St)(Q:Bool->Hp->Prop)(b:Bool)(s':Shared):Prop:=∃H',Inv X pins σ H' s'/\Q b H'
def AP(X:Cx)(pins:List (Addr×Obj))(σ:St)(Q:List V->Hp->Prop)(us:List Value)(s':Shared):Prop:=∃vs H',Inv X pins σ H' s'/\Vals vs us/\Q vs H'
def SP(X:Cx)(pins:List (Addr×Obj))(D:B6)(f:Flow)(s':Shared):Prop:=
 match f with
 | .next=>∃σ' H',Inv X pins σ' H' s'/\D.nx σ' H'
 | .brk=>∃σ' H',Inv X pins σ' H' s'/\D.bk σ' H'
 | .cont=>∃σ' H',Inv X pins σ' H' s'/\D.ct σ' H'
 | .ret u=>∃v σ' H',Inv X pins σ' H' s'/\RelV v u/\D.rt v H'
def PE(X:Cx)(e:Expr)(t:TE):Prop:=
 ∀(pins:List (Addr×Obj)) (s:Shared) (σ:St) (H:Hp) (Q:VK),Inv X pins σ H s->t σ H Q->wpAny (model X.prog X.w) X.A (eval e X.env) (EP X pins σ Q) X.xe s
def PT(X:Cx)(e:Expr)(t:TT):Prop:=
 ∀(pins:List (Addr×Obj)) (s:Shared) (σ:St) (H:Hp) (Q:Bool->Hp->Prop),Inv X pins σ H s->t σ H Q->wpAny (model X.prog X.w) X.A (isTrue e X.env (eval e X.env)) (TP X pins σ Q) X.xe s
def PW(X:Cx)(e:Expr)(t:TT):Prop:=
 ∀(A4:Sem Value) (pins:List (Addr×Obj)) (s:Shared) (σ:St) (H:Hp) (Q:Bool->Hp->Prop),Inv X pins σ H s->t σ H Q->wpAny (model X.prog X.w) X.A (isTrue e X.env A4) (TP X pins σ Q) X.xe s
theorem PW.pt{X:Cx}{e:Expr}{t:TT}(h:PW X e t):PT X e t:=h _
def PA(X:Cx)(es:List Expr)(t:TA):Prop:=
 ∀(pos:Pos) (pins:List (Addr×Obj)) (s:Shared) (σ:St) (H:Hp) (Q:List V->Hp->Prop),Inv X pins σ H s->t σ H Q->wpAny (model X.prog X.w) X.A (spliced (backTo pos (starEach es X.env))) (AP X pins σ Q) X.xe s
def PS(X:Cx)(st:Stmt)(t:TS):Prop:=
 ∀(pins:List (Addr×Obj)) (s:Shared) (σ:St) (H:Hp) (D:B6),Inv X pins σ H s->t D σ H->wpAny (model X.prog X.w) X.A (exec st X.env) (SP X pins D) X.xe s
def PSs(X:Cx)(st:List Stmt)(t:TS):Prop:=
 ∀(pins:List (Addr×Obj)) (s:Shared) (σ:St) (H:Hp) (D:B6),Inv X pins σ H s->t D σ H->wpAny (model X.prog X.w) X.A (execs st X.env) (SP X pins D) X.xe s
theorem thn{α:Type}{t:Sem α}{Q Q':α->Shared->Prop}{M:Model}{A:Around}{E:Value->Shared->Prop}{s:Shared}(h:wpAny M A t Q E s)(hQ:∀a s,Q a s->Q' a s):wpAny M A t Q' E s:=wpAny_mono h hQ λ_ _ x=>x
section
variable{X:Cx}
theorem bin{a b:Expr}{ta tb:TE}(ha:PE X a ta)(hb:PE X b tb){pins:List (Addr×Obj)}{s:Shared}{σ:St}{H:Hp}{R:V->V->Hp->Prop}(I:Inv X pins σ H s)(h:ta σ H λx H1=>tb σ H1 λy H2=>R x y H2)
  {α:Type}{Q:α->Shared->Prop}{f:Value->Value->Sem α}
  (hf:∀v u s2 x y H2,Inv X pins σ H2 s2->RelV x v->RelV y u->R x y H2->wpAny (model X.prog X.w) X.A (f v u) Q X.xe s2):
  wpAny (model X.prog X.w) X.A (eval a X.env) (λv s₁=>wpAny (model X.prog X.w) X.A (eval b X.env) (λu s₂=>wpAny (model X.prog X.w) X.A (f v u) Q X.xe s₂) X.xe s₁) X.xe s:=by
 refine thn (ha pins s σ H _ I h) λv s1 ⟨x,H1,I1,r1,q1⟩=>?_;refine thn (hb pins s1 σ H1 _ I1 q1) λu s2 ⟨y,H2,I2,r2,q2⟩=>?_;exact hf v u s2 x y H2 I2 r1 r2 q2
noncomputable def qHb(i:Nat):TE:=λσ H Q=>∃v,σ[i]?=some (some v)/\Q v H
noncomputable def tC(v:V):TE:=λ_ H Q=>Q v H
theorem pe_var{i:Nat}{x:Str}{pos:Pos}(hN:X.N[i]?=some x)(hv:Vis X.env.scope x)(hd:(x==("__debug__":Str))=false:=by decide)(hcd:(x==("__classdict__":Str))=false:=by decide):PE X (.Name x pos) (qHb i):=by
 intro pins s σ H Q I h;obtain⟨v,e,h⟩:=h;obtain⟨m,hn,hl⟩:=I.loc;obtain⟨u,r,l⟩:=hl i x v hN e hv;have fin:EP X pins σ Q u s:=⟨v,H,I,r,h⟩
 rcases l with⟨hk,hm⟩|⟨hk,c,hc,hcell⟩
 ·exact wpAny_Name (wpAny_loadName_local I.ok.kind hk hn hm fin) hd
 ·rcases hk with hk|hk
  ·exact wpAny_Name (wpAny_loadName_cell I.ok.kind hk hc hcell fin) hd
  ·exact wpAny_Name (wpAny_loadName_free I.ok.kind hk hc hcell fin hcd) hd
theorem pe_int {i j pos}:PE X (.Constant (.int i) j pos) (tC (.int i)):=λ_ _ _ H _ I h=>wpAny_Constant_int ⟨.int i,H,I.tok _,⟨_,rfl⟩,h⟩
theorem pe_bl {b j pos}:PE X (.Constant (.bool b) j pos) (tC (.bl b)):=λ_ _ _ H _ I h=>Constant_bool ⟨.bl b,H,I,rfl,h⟩
theorem pe_non {j pos}:PE X (.Constant .none j pos) (tC .non):=λ_ _ _ H _ I h=>Constant_none ⟨.non,H,I,rfl,h⟩
theorem pe_str {x j pos}:PE X (.Constant (.str x) j pos) (tC (.str x)):=λ_ _ _ H _ I h=>Calls.Constant_str ⟨.str x,H,I.tok _,⟨_,rfl⟩,h⟩
def Gl(X:Cx)(x:Str):Prop:=X.env.kindOf x=some .globalImplicit
theorem ld_glob{E:Value->Shared->Prop}{pins:List (Addr×Obj)}{s:Shared}{σ:St}{H:Hp}{x:Str}{u:Value}{pos:Pos}{Q:Value->Shared->Prop}(I:Inv X pins σ H s)(hg:Gl X x)(hm:X.mg x=some u)(h:Q u s)
  (hd:(x==("__debug__":Str))=false:=by decide):wpAny (model X.prog X.w) X.A (eval (.Name x pos) X.env) Q E s:=
 Calls.Name_function_global I.ok.kind hg (Calls.loadGlobal_global (by rw[I.ok.glob];exact I.mod.glob.keeps I.bk) hm h) hd
theorem ld_blt{E:Value->Shared->Prop}{pins:List (Addr×Obj)}{s:Shared}{σ:St}{H:Hp}{x:Str}{u:Value}{pos:Pos}{Q:Value->Shared->Prop}(I:Inv X pins σ H s)(hg:Gl X x)(hm:X.mg x=none)(hv:bootBuiltins x=some u)(h:Q u s)
  (hn:x≠"__name__":=by decide) (hd:(x==("__debug__":Str))=false:=by decide):wpAny (model X.prog X.w) X.A (eval (.Name x pos) X.env) Q E s:=by
 obtain⟨mb,h1,h2⟩:=I.mod.blt;exact Calls.Name_function_global I.ok.kind hg (Calls.loadGlobal_builtin (by rw[I.ok.glob];exact I.mod.glob.keeps I.bk) hm (by rw[I.ok.blt];exact h1.keeps I.bk) ((h2 x hn).trans hv) h) hd
theorem pe_glob{x:Str}{v:V}{u:Value}{pos:Pos}(hg:Gl X x)(hm:X.mg x=some u)(r:RelV v u)(hd:(x==("__debug__":Str))=false:=by decide):PE X (.Name x pos) (tC v):=
 λ_ _ _ H _ I h=>ld_glob I hg hm ⟨v,H,I,r,h⟩ hd
theorem pe_bltn{x:Str}{v:V}{u:Value}{pos:Pos}(hg:Gl X x)(hm:X.mg x=none)(hv:bootBuiltins x=some u)(r:RelV v u)(hn:x≠"__name__":=by decide)(hd:(x==("__debug__":Str))=false:=by decide):PE X (.Name x pos) (tC v):=
 λ_ _ _ H _ I h=>ld_blt I hg hm hv ⟨v,H,I,r,h⟩ hn hd
variable{a b:Expr}{ta tb:TE}{pos:Pos}
def PC(X:Cx)(op:CmpOp)(a b:Expr)(t:TE):Prop:=
 ∀(pins:List (Addr×Obj)) (s:Shared) (σ:St) (H:Hp) (Q:VK),Inv X pins σ H s->t σ H Q ->
  wpAny (model X.prog X.w) X.A (eval a X.env) (λv s₁=>wpAny (model X.prog X.w) X.A (eval b X.env) (λu s₂=>wpAny (model X.prog X.w) X.A (compareOp op v u) (EP X pins σ Q) X.xe s₂) X.xe s₁) X.xe s
noncomputable def tB(t:TE):TT:=λσ H Q=>t σ H λx H1=>∃c,x=.bl c/\Q c H1
theorem qAq{op:CmpOp}{t:TE}(h:PC X op a b t)(h1:behindInMarks op b=false:=by first|exact nobehind _ (by decide) (by decide)|rfl):PE X (.Compare a [op] [b] pos) t:=λpins s σ H Q I hw=>wpAny_Compare1 (h pins s σ H Q I hw) h1
theorem pt_val{e:Expr}{t:TE}(h:PE X e t)(he:∀A4,isTrue e X.env A4=(do let v <- A4;standAt e.pos;holding [v] (truthy v)):=by intro _;rfl):PT X e (tB t):=by
 intro pins s σ H Q I hw;refine isTrue_plain (thn (h pins s σ H _ I hw) λv s1 ⟨x,H1,I1,r1,q1⟩=>?_) (he _);obtain⟨d,rfl,q⟩:=q1;cases r1;exact uJ ⟨H1,I1,q⟩
variable{tA tB':TT}{QD:List Expr}
noncomputable def tAnd(t u:TT):TT:=λσ H Q=>t σ H λc H1=>if c=true then u σ H1 Q else Q false H1
noncomputable def tOr(t u:TT):TT:=λσ H Q=>t σ H λc H1=>if c=true then Q true H1 else u σ H1 Q
noncomputable def qH0(t:TT):TT:=λσ H Q=>t σ H λc H1=>Q (!c) H1
theorem pw_and1(ha:PT X a tA):PW X (.BoolOp .And [a] pos) tA:=by
 intro wh pins s σ H Q I h;refine isTrue_and (thn (ha pins s σ H Q I h) λc s1 e=>?_);cases c with
 |true=>exact isTrue_and_nil e
 |false=>exact e
theorem pw_or1(ha:PT X a tA):PW X (.BoolOp .Or [a] pos) tA:=by
 intro wh pins s σ H Q I h;refine isTrue_or (thn (ha pins s σ H Q I h) λc s1 e=>?_);cases c with
 |false=>exact isTrue_or_nil e
 |true=>exact e
theorem pw_and(ha:PT X a tA)(hb:PW X (.BoolOp .And (b::QD) pos) tB'):PW X (.BoolOp .And (a::b::QD) pos) (tAnd tA tB'):=by
 intro wh pins s σ H Q I h;refine isTrue_and (thn (ha pins s σ H _ I h) λc s1 ⟨H1,I1,q1⟩=>?_);cases c with
 |true=>exact hb wh pins s1 σ H1 Q I1 q1
 |false=>exact⟨H1,I1,q1⟩
theorem pw_or(ha:PT X a tA)(hb:PW X (.BoolOp .Or (b::QD) pos) tB'):PW X (.BoolOp .Or (a::b::QD) pos) (tOr tA tB'):=by
 intro wh pins s σ H Q I h;refine isTrue_or (thn (ha pins s σ H _ I h) λc s1 ⟨H1,I1,q1⟩=>?_);cases c with
 |true=>exact⟨H1,I1,q1⟩
 |false=>exact hb wh pins s1 σ H1 Q I1 q1
theorem pt_not(ha:PT X a tA):PT X (.UnaryOp .Not a pos) (qH0 tA):=by
 intro pins s σ H Q I h;exact isTrue_not (ha pins s σ H (λc H1=>Q (!c) H1) I h)
noncomputable def tAndV(ta tb:TE):TE:=λσ H Q=>ta σ H λx H1=>∃c,x=.bl c/\if c=true then tb σ H1 Q else Q (.bl false) H1
noncomputable def tOrV(ta tb:TE):TE:=λσ H Q=>ta σ H λx H1=>∃c,x=.bl c/\if c=true then Q (.bl true) H1 else tb σ H1 Q
noncomputable def qGU(ta:TE):TE:=λσ H Q=>ta σ H λx H1=>∃c,x=.bl c/\Q (.bl (!c)) H1
theorem pe_one {op}{t:TE}(h:PE X a t):PE X (.BoolOp op [a] pos) t:=λpins s σ H Q I hw=>BoolOp_one (h pins s σ H Q I hw)
theorem pe_and(ha:PE X a ta)(hb:PE X (.BoolOp .And (b::QD) pos) tb):PE X (.BoolOp .And (a::b::QD) pos) (tAndV ta tb):=by
 intro pins s σ H Q I h;refine BoolOp_and (thn (ha pins s σ H _ I h) λv s1 ⟨x,H1,I1,r1,q1⟩=>?_);obtain⟨c,rfl,q1⟩:=q1;cases r1;refine uJ ?_;cases c with
 |true=>exact hb pins s1 σ H1 Q I1 q1
 |false=>exact⟨.bl false,H1,I1,rfl,q1⟩
theorem pe_or(ha:PE X a ta)(hb:PE X (.BoolOp .Or (b::QD) pos) tb):PE X (.BoolOp .Or (a::b::QD) pos) (tOrV ta tb):=by
 intro pins s σ H Q I h;refine BoolOp_or (thn (ha pins s σ H _ I h) λv s1 ⟨x,H1,I1,r1,q1⟩=>?_);obtain⟨c,rfl,q1⟩:=q1;cases r1;refine uJ ?_;cases c with
 |false=>exact hb pins s1 σ H1 Q I1 q1
 |true=>exact⟨.bl true,H1,I1,rfl,q1⟩
theorem pe_not(ha:PE X a ta):PE X (.UnaryOp .Not a pos) (qGU ta):=by
 intro pins s σ H Q I h;refine UnaryOp_ (thn (ha pins s σ H _ I h) λv s1 ⟨x,H1,I1,r1,q1⟩=>?_);obtain⟨c,rfl,q1⟩:=q1;cases r1;exact not_of (uJ ⟨.bl (!c),H1,I1,rfl,q1⟩)
noncomputable def tIf(t:TT)(ta tb:TE):TE:=λσ H Q=>t σ H λc H1=>if c=true then ta σ H1 Q else tb σ H1 Q
theorem pe_ifExp{c:Expr}(hc:PT X c tA)(ha:PE X a ta)(hb:PE X b tb):PE X (.IfExp c a b pos) (tIf tA ta tb):=by
 intro pins s σ H Q I h;refine wpAny_IfExp (thn (hc pins s σ H _ I h) λd s1 ⟨H1,I1,q1⟩=>?_);cases d with
 |true=>exact ha pins s1 σ H1 Q I1 q1
 |false=>exact hb pins s1 σ H1 Q I1 q1
end
def SqL(K:PySem.W.Frag)(H:Hp)(a:Addr)(xs:List V):Prop:=
 Rd H a (.lst xs)\/
  ∃(o:Obj) (its:Array Value) (n:Nat),K.lookup a=some o/\o.cls=.type "list"/\o.dict=none/\o.data=.seq its n/\its.size<=sizeLine/\Vals xs its.toList
def SqT(K:PySem.W.Frag)(H:Hp)(a:Addr)(xs:List V):Prop:=
 Rd H a (.tup xs)\/
  ∃(o:Obj) (its:Array Value) (n:Nat),K.lookup a=some o/\o.cls=.type "tuple"/\o.data=.seq its n/\its.size<=sizeLine/\Vals xs its.toList
noncomputable def qHf:Value->Option V
 | .none=>some .non
 | .bool b=>some (.bl b)
 | .int i _=>some (.int i)
 | .str x _=>some (.str x)
 | .bytes b _=>some (.byt b)
 | .float b _=>some (.flt b)
 | .ref a=>some (.ref a)
 | .type n=>some (.ty n)
 |_=>none
theorem RelV.abs{x:V}{u:Value}(r:RelV x u):qHf u=some x:=by
 cases x with
 |non=>cases r;rfl
 |bl _=>cases r;rfl
 |int _=>obtain⟨t,rfl⟩:=r;rfl
 |str _=>obtain⟨t,rfl⟩:=r;rfl
 |byt _=>obtain⟨t,rfl⟩:=r;rfl
 |flt _=>obtain⟨t,rfl⟩:=r;rfl
 |ref _=>cases r;rfl
 |ty _=>cases r;rfl
theorem RelV.inj{x y:V}{u:Value}(r:RelV x u)(q:RelV y u):x=y:=Option.some.inj (r.abs.symm.trans q.abs)
theorem Vals.inj:∀{xs ys:List V}{us:List Value},Vals xs us->Vals ys us->xs=ys
 |_,_,_,.nil,.nil=>rfl
 |_,_,_,.cons r t,.cons r' t'=>by rw[r.inj r',Vals.inj t t']
section
variable{X:Cx}{pins:List (Addr×Obj)}{σ:St}{H:Hp}{s:Shared}{a:Addr}{xs ys:List V}
theorem Inv.list(I:Inv X pins σ H s)(h:SqL X.K H a xs):∃its:List Value,Vals xs its/\PlainL s.heap a its.toArray/\xs.length<=sizeLine:=by
 rcases h with h|⟨o,its,n,hk,hc,hd,hs,hz,r⟩
 ·obtain⟨z,its,n,r,e⟩:=h.ok I.hok;exact⟨its,r,⟨_,n,e,rfl,rfl,rfl⟩,z⟩
 ·refine⟨its.toList,r,⟨o,n,I.kIn a o hk,hc,hd,by simpa using hs⟩,?_⟩;have e:=r.length;simp only[vD]at e;omega
theorem Inv.tuple(I:Inv X pins σ H s)(h:SqT X.K H a xs):∃its:List Value,Vals xs its/\IsTup s.heap a its.toArray/\xs.length<=sizeLine:=by
 rcases h with h|⟨o,its,n,hk,hc,hs,hz,r⟩
 ·obtain⟨z,its,r,p⟩:=h.ok I.hok;exact⟨its,r,p,z⟩
 ·refine⟨its.toList,r,⟨o,I.kIn a o hk,hc,n,by simpa using hs⟩,?_⟩;have e:=r.length;simp only[vD]at e;omega
theorem Inv.list_inj(I:Inv X pins σ H s)(h:SqL X.K H a xs)(h':SqL X.K H a ys):xs=ys:=by
 obtain⟨its,r,⟨o,n,e,_,_,d⟩,_⟩:=I.list h;obtain⟨its',r',⟨o',n',e',_,_,d'⟩,_⟩:=I.list h';rw[e]at e';cases e';rw[d]at d';injection d' with d1 _;have:its=its':=by simpa using congrArg Array.toList d1
 subst this;exact r.inj r'
theorem Inv.tuple_inj(I:Inv X pins σ H s)(h:SqT X.K H a xs)(h':SqT X.K H a ys):xs=ys:=by
 obtain⟨its,r,⟨o,e,_,n,d⟩,_⟩:=I.tuple h;obtain⟨its',r',⟨o',e',_,n',d'⟩,_⟩:=I.tuple h';rw[e]at e';cases e';rw[d]at d';injection d' with d1 _;have:its=its':=by simpa using congrArg Array.toList d1
 subst this;exact r.inj r'
end
noncomputable abbrev Cx.wish(X:Cx)(E:Value->Shared->Prop):Cx:={ X with xe:=E }
noncomputable abbrev Cx.nox(X:Cx):Cx:=X.wish λ_ _=>False
theorem Cx.Ok.wish{X:Cx}(ok:X.Ok)(E:Value->Shared->Prop):(X.wish E).Ok:=
 ⟨ok.mod,ok.kind,ok.glob,ok.blt,ok.above,ok.inj,ok.has,ok.cab,ok.hd,ok.frames,ok.stk,ok.exf,ok.bs,ok.bsz,ok.noex,ok.exfs,ok.funs,ok.frf⟩
theorem Cx.Ok.unwish{X:Cx}{E:Value->Shared->Prop}(ok:(X.wish E).Ok):X.Ok:=
 ⟨ok.mod,ok.kind,ok.glob,ok.blt,ok.above,ok.inj,ok.has,ok.cab,ok.hd,ok.frames,ok.stk,ok.exf,ok.bs,ok.bsz,ok.noex,ok.exfs,ok.funs,ok.frf⟩
section
variable{X:Cx}{pins:List (Addr×Obj)}{σ:St}{H:Hp}{s:Shared}{E:Value->Shared->Prop}
theorem Inv.wish(I:Inv X pins σ H s)(E:Value->Shared->Prop):Inv (X.wish E) pins σ H s:=⟨I.ok.wish E,I.os,I.bare,I.base,I.loc,I.cell,I.free,I.freeC,I.pin,I.hok,I.len⟩
theorem Inv.unwish(I:Inv (X.wish E) pins σ H s):Inv X pins σ H s:=⟨I.ok.unwish,I.os,I.bare,I.base,I.loc,I.cell,I.free,I.freeC,I.pin,I.hok,I.len⟩
theorem SP.unwish{D:B6}{f:Flow}{s':Shared}(h:SP (X.wish E) pins D f s'):SP X pins D f s':=by
 cases f with
 |next=>obtain⟨σ',H',I,q⟩:=h;exact⟨σ',H',I.unwish,q⟩
 |brk=>obtain⟨σ',H',I,q⟩:=h;exact⟨σ',H',I.unwish,q⟩
 |cont=>obtain⟨σ',H',I,q⟩:=h;exact⟨σ',H',I.unwish,q⟩
 |ret u=>obtain⟨v,σ',H',I,r,q⟩:=h;exact⟨v,σ',H',I.unwish,r,q⟩
theorem PSs.nox{st:List Stmt}{t:TS}(h:PSs X.nox st t):PSs X st t:=λpins s σ H D I hw=>
 wpAny_mono (h pins s σ H D (I.wish _) hw) (λ_ _ q=>q.unwish) λ_ _ z=>False.elim z
end
section
variable{X:Cx}{st:Stmt}{QD:List Stmt}{t u:TS}{e:Expr}{te:TE}{pos:Pos}
noncomputable def qF0:TS:=λD σ H=>D.nx σ H
noncomputable def qHy(t u:TS):TS:=λD σ H=>t { D with nx:=u D } σ H
theorem pss_nil:PSs X [] qF0:=λ_ _ σ H _ I h=>wpAny_execs_nil ⟨σ,H,I,h⟩
theorem pss_cons(h1:PS X st t)(h2:PSs X QD u):PSs X (st::QD) (qHy t u):=by
 intro pins s σ H D I h;refine wpAny_execs_cons (thn (h1 pins s σ H { D with nx:=u D } I h) λf s1 q=>?_);cases f with
 |next=>
  obtain⟨σ',H',I',q⟩:=q;exact h2 pins s1 σ' H' D I' q
 |ret v=>exact q
 |brk=>exact q
 |cont=>exact q
theorem pss_one(h1:PS X st t):PSs X [st] t:=by
 intro pins s σ H D I h;refine wpAny_execs_cons (thn (h1 pins s σ H D I h) λf s1 q=>?_);cases f with
 |next=>exact wpAny_execs_nil q
 |ret v=>exact q
 |brk=>exact q
 |cont=>exact q
theorem Inv.quiet{pins:List (Addr×Obj)}{σ:St}{H:Hp}{s:Shared}(I:Inv X pins σ H s):interactive X.env=false:=by simp[interactive,I.ok.kind]
noncomputable def qGL(te:TE):TS:=λD σ H=>te σ H λ_ H1=>D.nx σ H1
theorem ps_expr(he:PE X e te)(hs:swapsWith e none pos.line X.env=pure false:=by rfl):PS X (.Expr e pos) (qGL te):=by
 intro pins s σ H D I h;exact wpAny_Expr_any (thn (he pins s σ H _ I h) λv s1 ⟨x,H1,I1,r1,q1⟩=>⟨σ,H1,I1,q1⟩) I.quiet hs
noncomputable def qIO(te:TE):TS:=λD σ H=>te σ H D.rt
theorem ps_ret(he:PE X e te):PS X (.Return (some e) pos) (qIO te):=by
 intro pins s σ H D I h;exact wpAny_Return_some (thn (he pins s σ H _ I h) λv s1 ⟨x,H1,I1,r1,q1⟩=>⟨x,σ,H1,I1,r1,q1⟩)
noncomputable def qHt(c:TT)(t u:TS):TS:=λD σ H=>c σ H λb H1=>if b=true then t D σ H1 else u D σ H1
theorem ps_if{c:Expr}{a b:List Stmt}{tc:TT}(hc:PT X c tc)(ha:PSs X a t)(hb:PSs X b u):PS X (.If c a b pos) (qHt tc t u):=by
 intro pins s σ H D I h;refine wpAny_If (thn (hc pins s σ H _ I h) λd s1 ⟨H1,I1,q1⟩=>?_);cases d with
 |true=>exact ha pins s1 σ H1 D I1 q1
 |false=>exact hb pins s1 σ H1 D I1 q1
end
noncomputable abbrev TG:=V->St->Hp->(St->Hp->Prop)->Prop
noncomputable abbrev TGs:=List V->St->Hp->(St->Hp->Prop)->Prop
def PG(X:Cx)(target:Expr)(t:TG):Prop:=
 ∀(pins:List (Addr×Obj)) (s:Shared) (σ:St) (H:Hp) (v:V) (u:Value) (Q:St->Hp->Prop),Inv X pins σ H s->RelV v u->t v σ H Q ->
  wpAny (model X.prog X.w) X.A (assign target X.env u) (λ_ s'=>∃σ' H',Inv X pins σ' H' s'/\Q σ' H') X.xe s
def PGs(X:Cx)(ts:List Expr)(t:TGs):Prop:=
 ∀(pins:List (Addr×Obj)) (s:Shared) (σ:St) (H:Hp) (vs:List V) (us:List Value) (Q:St->Hp->Prop),Inv X pins σ H s->Vals vs us->t vs σ H Q ->
  wpAny (model X.prog X.w) X.A (assignInOrder ((assignEach ts X.env).map (·.2)) us) (λ_ s'=>∃σ' H',Inv X pins σ' H' s'/\Q σ' H') X.xe s
noncomputable abbrev TSet:=V->V->V->Hp->(Hp->Prop)->Prop
def PSet(X:Cx)(t:TSet):Prop:=
 ∀(pins:List (Addr×Obj)) (s:Shared) (σ:St) (H:Hp) (o i v:V) (ov iv u:Value) (Q:Hp->Prop),Inv X pins σ H s->RelV o ov->RelV i iv->RelV v u->t o i v H Q ->
  wpAny (model X.prog X.w) X.A (setItem ov iv u) (λ_ s'=>∃H',Inv X pins σ H' s'/\Q H') X.xe s
section
variable{X:Cx}{pos:Pos}
noncomputable def qB1(i:Nat):TG:=λv σ H Q=>Q (σ.set i (some v)) H
theorem pg_name{i:Nat}{x:Str}(hN:X.N.Nodup)(hi:X.N[i]?=some x)(hx:Loc X.env.scope x)(hf:X.fn x=true\/X.env.scope.names.lookup x=some .local:=by first|exact .inl rfl|exact .inr rfl|assumption):PG X (.Name x pos) (qB1 i):=by
 intro pins s σ H v u Q I r h;exact wpAny_assign_Name (store_ok I hN hi hx r (λs' I'=>⟨_,H,I',h⟩) hf)
noncomputable def qID:TGs:=λvs σ H Q=>vs=[]/\Q σ H
noncomputable def qGE(t:TG)(u:TGs):TGs:=λvs σ H Q=>∃v r,vs=v::r/\t v σ H λσ' H'=>u r σ' H' Q
theorem pgs_nil:PGs X [] qID:=by
 intro pins s σ H vs us Q I r h;obtain⟨e,h⟩:=h;subst e;cases r;exact assignInOrder_nil ⟨σ,H,I,h⟩
theorem pgs_cons{e:Expr}{es:List Expr}{t:TG}{u:TGs}(h1:PG X e t)(h2:PGs X es u)
  (hs:(assignEach (e::es) X.env).map (·.2)=assign e X.env::(assignEach es X.env).map (·.2):=by rfl):PGs X (e::es) (qGE t u):=by
 intro pins s σ H vs us Q I r h;obtain⟨v,vr,e1,h⟩:=h;subst e1;cases r with
 |cons r rr=>
  rw[hs];refine assignInOrder_cons (thn (h1 pins s σ H _ _ _ I r h) λ_ s1 ⟨σ1,H1,I1,q1⟩=>?_);exact h2 pins s1 σ1 H1 _ _ Q I1 rr q1
noncomputable def qHe(K:PySem.W.Frag)(n:Nat)(t:TGs):TG:=λv σ H Q=>∃a xs,v=.ref a/\SqT K H a xs/\xs.length=n/\t xs σ H Q
theorem pg_tup{es:List Expr}{k:Nat}{t:TGs}{n:Nat}(hc:X.calm=true)(h:PGs X es t)
  (hn:(assignEach es X.env).length=n:=by rfl) (hst:(assignEach es X.env).findIdx? (·.1)=none:=by rfl):PG X (.Tuple es k pos) (qHe X.K n t):=by
 intro pins s σ H v u Q I r hw;obtain⟨a,xs,e1,hq,hl,hw⟩:=hw;subst e1;cases r;obtain⟨its,rv,ht,hz⟩:=I.tuple hq;refine assign_Tuple_tuple (I.ok.hd hc) ht (by simp[hn,<-hl,rv.length]) hst λh' hx=>?_;have I1:Inv X pins σ H { s with heap:=h' }:=I.kept (t':=s.toks) λb o e=>hx b o (wX (Heap.lt_size e)) e;exact h pins _ σ H xs _ Q I1 (by simpa using rv) hw
noncomputable def qHj(to ti:TE)(t:TSet):TG:=λv σ H Q=>to σ H λo H1=>ti σ H1 λi H2=>t o i v H2 λH3=>Q σ H3
theorem pg_sub{o i:Expr}{to ti:TE}{t:TSet}(ho:PE X o to)(hi:PE X i ti)(hs:PSet X t)
  (ha:∀v,assign (.Subscript o i pos) X.env v=(do
   let ov <- holding [v] (eval o X.env)
   let iv <- holding [v,ov] (eval i X.env)
   standAt pos
   holding [v,ov,iv] (setItem ov iv v)
   release [v,ov,iv] []):=by intro _;rfl):PG X (.Subscript o i pos) (qHj to ti t):=by
 intro pins s σ H v u Q I r h;rw[ha];refine uD (wpAny_holding (thn (ho pins s σ H _ I h) λov s1 ⟨x,H1,I1,r1,q1⟩=>?_));refine uD (wpAny_holding (thn (hi pins s1 σ H1 _ I1 q1) λiv s2 ⟨y,H2,I2,r2,q2⟩=>?_));refine uD (wpAny_standAt (uD (wpAny_holding (thn (hs pins s2 σ H2 x y v ov iv u _ I2 r1 r2 r q2) λ_ s3 ⟨H3,I3,q3⟩=>?_))));exact wpAny_release ⟨σ,H3,I3,q3⟩
noncomputable def tAsg(te:TE)(g:TG):TS:=λD σ H=>te σ H λx H1=>g x σ H1 D.nx
theorem ps_asg{tg e:Expr}{te:TE}{g:TG}(he:PE X e te)(hg:PG X tg g)(hs:swapsWithSole [tg] e pos.line X.env=pure false:=by rfl)(hw:swappedStores [tg] e X.env=pure none:=by rfl)
  (h1:(assignEach [tg] X.env).map (·.2)=[assign tg X.env]:=by rfl):PS X (.Assign [tg] e pos) (tAsg te g):=by
 intro pins s σ H D I h;refine wpAny_Assign_stores (thn (he pins s σ H _ I h) λv s1 ⟨x,H1,I1,r1,q1⟩=>?_) hs hw;rw[h1];exact thn (hg pins s1 σ H1 x v _ I1 r1 q1) λ_ s2 q=>q
theorem ps_set{i:Nat}{x:Str}{e:Expr}{te:TE}{pos':Pos}(hN:X.N.Nodup)(hi:X.N[i]?=some x)(hx:Loc X.env.scope x)(he:PE X e te)(hs:swapsWith e (some (.Name x pos')) pos.line X.env=pure false:=by rfl)(hf:X.fn x=true\/X.env.scope.names.lookup x=some .local:=by first|exact .inl rfl|exact .inr rfl|assumption):
  PS X (.Assign [.Name x pos'] e pos) (tAsg te (qB1 i)):=by
 intro pins s σ H D I h;refine wpAny_Assign_Name (thn (he pins s σ H _ I h) λv s1 ⟨y,H1,I1,r1,q1⟩=>?_) hs;exact store_ok I1 hN hi hx r1 (λs2 I2=>⟨_,H1,I2,q1⟩) hf
noncomputable def qHl(i j:Nat)(ta:TA):TS:=λD σ H=>ta σ H λvs H1=>∃v w,vs=[v,w]/\D.nx ((σ.set i (some v)).set j (some w)) H1
theorem ps_par{i j:Nat}{x y:Str}{a b:Expr}{ta:TA}{px py pt:Pos}{kt k2 pt2}(hc:X.calm=true)(hN:X.N.Nodup)(hi:X.N[i]?=some x)(hj:X.N[j]?=some y)(hij:i≠j)
  (hx:X.env.scope.names.lookup x=some .local) (hy:X.env.scope.names.lookup y=some .local) (ha:PA X [a,b] ta)
  (hw:swappedStores [.Tuple [.Name x px,.Name y py] kt pt] (.Tuple [a,b] k2 pt2) X.env=pure (some [x,y]))
  (hs:swapsWithSole [.Tuple [.Name x px,.Name y py] kt pt] (.Tuple [a,b] k2 pt2) pos.line X.env=pure false:=by rfl):
  PS X (.Assign [.Tuple [.Name x px,.Name y py] kt pt] (.Tuple [a,b] k2 pt2) pos) (qHl i j ta):=by
 intro pins s σ H D I h;rw[exec_Assign_arm];refine uD (wpAny_standAt ?_);rw[hs];refine uD (uE ?_);rw[if_neg (by decide)];refine uD (Tuple_ (thn (ha _ pins s σ H _ I h) λus s1 ⟨vs,H1,I1,r1,q1⟩=>?_));obtain⟨v,w,e1,q1⟩:=q1;subst e1;obtain⟨u1,u2,rfl,rv,rw'⟩:∃u1 u2,us=[u1,u2]/\RelV v u1/\RelV w u2:=by
  cases r1 with
  |cons p q=>
   cases q with
   |cons p' q'=>
    cases q';exact⟨_,_,rfl,p,p'⟩
 refine wpAny_newObj_type ?_ (by show 2<=sizeLine;decide);have I2:Inv X pins σ H1 { s1 with heap:=s1.heap.push { cls:=.type "tuple",data:=.seq [u1,u2].toArray } }:=I1.kept (t':=s1.toks) λb o e=>Heap.get?_push_of_some _ e;rw[hw];refine uD (uE ?_);show wpAny (model X.prog X.w) X.A (do rule "assign.swapped-stores";let items <- unpackItems (.ref s1.heap.objs.size) 2 none;assignInOrder [λv=>bindName X.env y v,λv=>bindName X.env x v] items.reverse;pure Flow.next) _ _ _;refine uD (wpAny_rule (uD (unpackItems_tuple (items:=#[u1,u2]) (I.ok.hd hc) (IsTup.new s1.heap _) λh' hx'=>?_)));have I3:=I2.kept (h':=h') (t':=s1.toks) λb o e=>hx' b o (wX (Heap.lt_size e)) e;show wpAny _ _ (assignInOrder [λv=>bindName X.env y v,λv=>bindName X.env x v] [u2,u1] >>=λ_=>pure Flow.next) _ _ _;refine uD (assignInOrder_cons (wpAny_bindName (store_ok I3 hN hj (.inl hy) rw' (λs2 I4=>?_) (.inr hy))));refine assignInOrder_cons (wpAny_bindName (store_ok I4 hN hi (.inl hx) rv (λs3 I5=>assignInOrder_nil (uE ?_)) (.inr hx)));rw[List.set_comm _ _ (Ne.symm hij)]at I5;exact⟨_,H1,I5,q1⟩
end
section
variable{X:Cx}{pos:Pos}
noncomputable def qFB(c:TT)(tb:TS):TS:=λD σ H=>∃W:Nat->St->Hp->Prop,(∃m,W m σ H)/\∀m σ H,W m σ H ->
 c σ H λb H1=>if b=true then ∃N:St->Hp->Prop,(∀σ' H',N σ' H'->∃m',m'<m/\W m' σ' H')/\tb { D with nx:=N,ct:=N,bk:=D.nx } σ H1 else D.nx σ H1
theorem ps_while{c:Expr}{body:List Stmt}{tc:TT}{tb:TS}(hp:PassesOwn (model X.prog X.w) X.A X.env X.xe)(hc:PT X c tc)(hb:PSs X body tb):PS X (.While c body [] pos) (qFB tc tb):=by
 intro pins s σ H D I h;obtain⟨W,⟨m0,w0⟩,qB0⟩:=h;refine wpAny_While (codeAny_whileLoop (λn s'=>∃σ' H',Inv X pins σ' H' s'/\W n σ' H') ?_ m0 ⟨σ,H,I,w0⟩);rintro n s1 ⟨σ1,H1,I1,w1⟩;refine wpAny_passesOwn hp (thn (hc pins s1 σ1 H1 _ I1 (qB0 n σ1 H1 w1)) λb s2 ⟨H2,I2,q2⟩=>?_);cases b with
 |true=>
  obtain⟨N,hN,q2⟩:=q2;rw[if_pos rfl];refine wpAny_passesOwn hp (thn (hb pins s2 σ1 H2 _ I2 q2) λf s3 q3=>?_);cases f with
  |next=>
   obtain⟨σ3,H3,I3,n3⟩:=q3;obtain⟨m',hm,w3⟩:=hN σ3 H3 n3;exact⟨m',hm,σ3,H3,I3,w3⟩
  |cont=>
   obtain⟨σ3,H3,I3,n3⟩:=q3;obtain⟨m',hm,w3⟩:=hN σ3 H3 n3;exact⟨m',hm,σ3,H3,I3,w3⟩
  |brk=>exact q3
  |ret v=>exact q3
 |false=>
  rw[if_neg wu];exact wpAny_execs_nil ⟨σ1,H2,I2,q2⟩
end
set_option genInjectivity false in structure It where
 go:Nat->Hp->Prop
 yld:Nat->Hp->V->Hp->Prop
 stop:Nat->Hp->Prop
def ZU(X:Cx)(pins:List (Addr×Obj))(H:Hp)(b:Addr):Prop:=
 H b=none/\b≠X.env.locals/\b∉X.fs/\(b∈X.ex\/X.s₀.heap.objs.size<=b)/\(∀x c,X.env.cells.lookup x=some c->c≠b)/\∀p∈X.pn++pins,p.1≠b
theorem Inv.fpOk{X:Cx}{pins:List (Addr×Obj)}{σ:St}{H H':Hp}{s:Shared}{b:Addr}(I:Inv X pins σ H s)(hb:s.heap.objs.size<=b)(hn:H' b=none):ZU X pins H' b:=by
 refine⟨hn,Nat.ne_of_gt (wH I.lt hb),I.nofs hb,.inr (wG I.sz hb),λx c e z=>?_,λp hp z=>?_⟩
 ·obtain⟨v,q⟩:=I.cell x c e;exact absurd (wH q.lt (by rw[z];exact hb)) (wl _)
 ·exact absurd (wH (Heap.lt_size (I.pin p hp).1) (by rw[z];exact hb)) (wl _)
structure JF(P:Program)(w:World)(K:PySem.W.Frag)(tg:Expr)(J:It)(fp:List Addr)(it:Addr)(tn:Nat->Heap->Prop):Prop where
 mem:it∈fp
 obj:∀i h,tn i h->∀b∈fp,∃o,h.get? b=some o/\∀v,o.data≠.cell v
 keep:∀i h h',tn i h->(∀b∈fp,∀o,h.get? b=some o->h'.get? b=some o)->tn i h'
 item:∀(X:Cx),X.prog=P->X.w=w->X.K=K->X.calm=true->∀(i:Nat) (pins:List (Addr×Obj)) (s:Shared) (σ:St) (H:Hp) (E:Value->Shared->Prop),Inv X pins σ H s->(∀b∈fp,ZU X pins H b)->tn i s.heap->J.go i H ->
  wpAny (model P w) X.A (pyNext (.ref it)) (λr s1=>∃u,r=some u/\
   wpAny (model P w) X.A (letOwnedTupleGo tg (.ref it) u) (λ_ s2=>∃x H',Inv X pins σ H' s2/\RelV x u/\J.yld i H x H'/\tn (i+1) s2.heap/\∀b∈fp,H' b=none) E s1) E s
 done:∀(X:Cx),X.prog=P->X.w=w->X.K=K->X.calm=true->∀(i:Nat) (pins:List (Addr×Obj)) (s:Shared) (σ:St) (H:Hp) (E:Value->Shared->Prop),Inv X pins σ H s->(∀b∈fp,ZU X pins H b)->tn i s.heap->J.stop i H ->
  wpAny (model P w) X.A (pyNext (.ref it)) (λr s1=>r=none/\Inv X pins σ H s1) E s
 self:∀(A:Around) (i:Nat) (s:Shared) (Q:Value->Shared->Prop) (E:Value->Shared->Prop),tn i s.heap->Q (.ref it) s->wpAny (model P w) A (pyIter (.ref it)) Q E s
noncomputable abbrev TI:=St->Hp->(It->Hp->Prop)->Prop
def PIE(X:Cx)(pins:List (Addr×Obj))(σ:St)(tg:Expr)(R:It->Hp->Prop)(itv:Value)(s2:Shared):Prop:=
 ∃(it:Addr) (fp:List Addr) (tn:Nat->Heap->Prop) (J:It) (H':Hp),itv=.ref it/\Inv X pins σ H' s2/\JF X.prog X.w X.K tg J fp it tn/\tn 0 s2.heap/\(∀b∈fp,ZU X pins H' b)/\R J H'
def _P(X:Cx)(tg iter:Expr)(wi:TI):Prop:=
 ∀(pins:List (Addr×Obj)) (s:Shared) (σ:St) (H:Hp) (R:It->Hp->Prop),Inv X pins σ H s->wi σ H R ->
  wpAny (model X.prog X.w) X.A (eval iter X.env) (λv s1=>wpAny (model X.prog X.w) X.A (pyIter v) (PIE X pins σ tg R) X.xe s1) X.xe s
theorem go_of{M:Model}{A:Around}{E:Value->Shared->Prop}{s:Shared}{tg:Expr}{it:Addr}{u:Value}{o:Obj}{n:String}{vs:Array Value}{Q:Unit->Shared->Prop}(ho:s.heap.get? it=some o)(hc:o.cls=.type n)(hd:o.data=.fields vs)
  (hn:["enumerate","zip","dict_itemiterator","dict_reverseitemiterator","odict_iterator","itertools.zip_longest","itertools.pairwise"].contains n=false) (hQ:Q () s):wpAny M A (letOwnedTupleGo tg (.ref it) u) Q E s:=by
 unfold letOwnedTupleGo;cases tg<;>first
  |exact uE hQ
  | (cases u<;>first
    |exact uE hQ
    | (refine uD (wpAny_load ho ?_)
       rw[hc,hd];show wpAny M A (if (["enumerate","zip","dict_itemiterator","dict_reverseitemiterator","odict_iterator","itertools.zip_longest","itertools.pairwise"].contains n&&vs[0]?==some (rawInt _))=true then _ else _) Q E s;rw[if_neg (by intro h;rw[hn,Bool.false_and]at h;cases h)];exact uE hQ))
noncomputable def Itl(K:PySem.W.Frag)(a:Addr):It:=
 ⟨λi H=>∃xs x,SqL K H a xs/\xs[i]?=some x,λi H x H'=>H'=H/\∀xs,SqL K H a xs->xs[i]?=some x,λi H=>∃xs,SqL K H a xs/\xs.length<=i⟩
noncomputable def Itt(K:PySem.W.Frag)(a:Addr):It:=
 ⟨λi H=>∃xs x,SqT K H a xs/\xs[i]?=some x,λi H x H'=>H'=H/\∀xs,SqT K H a xs->xs[i]?=some x,λi H=>∃xs,SqT K H a xs/\xs.length<=i⟩
noncomputable def Itr(lo:Int)(n:Nat):It:=⟨λi _=>i<n,λi H x H'=>H'=H/\x=.int (lo+i),λi _=>n<=i⟩
theorem turn_list{P:Program}{w:World}{K:PySem.W.Frag}{tg:Expr}(a it:Addr):JF P w K tg (Itl K a) [it] it (λi h=>h.IsListIter it a i) where
 mem:=by simp
 obj:=λi h st b hb=>by
  have e:b=it:=by simpa using hb
  subst e;obtain⟨o,e,c,d⟩:=st;exact⟨o,e,λv z=>by rw[d]at z;cases z⟩
 keep:=λi h h' st k=>st.at λo e=>k it (by simp) o e
 item:=by
  intro X hP hw hK hc i pins s σ H E I hf st hg;subst hP hw hK;obtain⟨xs,x,hq,hx⟩:=hg;obtain⟨its,rv,p,hz⟩:=I.list hq;obtain⟨u,hu,ru⟩:=rv.get hx;obtain⟨f0,f1,f2,f3,f4,f5⟩:=hf it (by simp);refine wpAny_pyNext_list_item st p.isList (x:=u) (by simpa using hu) λh' st' sb=>?_;have I1:Inv X pins σ H { s with heap:=h' }:=I.turned (t':=s.toks) (λb o hb e=>(sb.2 b hb).trans e) f0 f1 f3 f4 f5;obtain⟨o,e,c,d⟩:=id st';exact⟨u,rfl,go_of (s:={ s with heap:=h' }) e c d (by decide) ⟨x,H,I1,ru,⟨rfl,λys hy=>by rw[I.list_inj hy hq];exact hx⟩,st',λb hb=>(hf b hb).1⟩⟩
 done:=by
  intro X hP hw hK hc i pins s σ H E I hf st hg;subst hP hw hK;obtain⟨xs,hq,hx⟩:=hg;obtain⟨its,rv,p,hz⟩:=I.list hq;obtain⟨f0,f1,f2,f3,f4,f5⟩:=hf it (by simp);have hl:=rv.length;exact wpAny_pyNext_list_end (I.ok.hd hc) st p.isList (by simp;omega) λh' eb=>⟨rfl,I.turned (t':=s.toks) (λb o hb e=>eb b o hb e) f0 f1 f3 f4 f5⟩
 self:=λ_ _ _ _ _ st h=>wpAny_pyIter_listiter st h
theorem turn_tuple{P:Program}{w:World}{K:PySem.W.Frag}{tg:Expr}(a it:Addr):JF P w K tg (Itt K a) [it] it (λi h=>h.IsTupleIter it a i) where
 mem:=by simp
 obj:=λi h st b hb=>by
  have e:b=it:=by simpa using hb
  subst e;obtain⟨o,e,c,d⟩:=st;exact⟨o,e,λv z=>by rw[d]at z;cases z⟩
 keep:=λi h h' st k=>st.at λo e=>k it (by simp) o e
 item:=by
  intro X hP hw hK hc i pins s σ H E I hf st hg;subst hP hw hK;obtain⟨xs,x,hq,hx⟩:=hg;obtain⟨its,rv,p,hz⟩:=I.tuple hq;obtain⟨u,hu,ru⟩:=rv.get hx;obtain⟨f0,f1,f2,f3,f4,f5⟩:=hf it (by simp);refine wpAny_pyNext_tuple_item st (show s.heap.IsTuple a its.toArray from p) (x:=u) (by simpa using hu) λh' st' sb=>?_;have I1:Inv X pins σ H { s with heap:=h' }:=I.turned (t':=s.toks) (λb o hb e=>(sb.2 b hb).trans e) f0 f1 f3 f4 f5;obtain⟨o,e,c,d⟩:=id st';exact⟨u,rfl,go_of (s:={ s with heap:=h' }) e c d (by decide) ⟨x,H,I1,ru,⟨rfl,λys hy=>by rw[I.tuple_inj hy hq];exact hx⟩,st',λb hb=>(hf b hb).1⟩⟩
 done:=by
  intro X hP hw hK hc i pins s σ H E I hf st hg;subst hP hw hK;obtain⟨xs,hq,hx⟩:=hg;obtain⟨its,rv,p,hz⟩:=I.tuple hq;obtain⟨f0,f1,f2,f3,f4,f5⟩:=hf it (by simp);have hl:=rv.length;exact wpAny_pyNext_tuple_end (I.ok.hd hc) st (show s.heap.IsTuple a its.toArray from p) (by simp;omega) λh' eb=>⟨rfl,I.turned (t':=s.toks) (λb o hb e=>eb b o hb e) f0 f1 f3 f4 f5⟩
 self:=λ_ _ _ _ _ st h=>wpAny_pyIter_tupleiter st h
theorem N7{P:Program}{w:World}{K:PySem.W.Frag}{tg:Expr}(it:Addr)(lo:Int)(n:Nat):JF P w K tg (Itr lo n) [it] it (λi h=>IsRangeIter h it (lo+(i:Nat)*1) ((n:Int)-(i:Nat)) 1) where
 mem:=by simp
 obj:=λi h st b hb=>by
  have e:b=it:=by simpa using hb
  subst e;exact⟨_,st,λv z=>by
   have z':Data.fields _=Data.cell v:=z;cases z'⟩
 keep:=λi h h' st k=>k it (by simp) _ st
 item:=by
  intro X hP hw hK hc i pins s σ H E I hf st hg;subst hP hw hK;obtain⟨f0,f1,f2,f3,f4,f5⟩:=hf it (by simp);have W:=Walks.range (prog:=X.prog) (w:=X.w) (I.ok.hd hc) it lo 1 n;refine W.item i s _ _ hg st λv h' tk hv st' kk=>?_;obtain⟨t,rfl⟩:=hv;have I1:Inv X pins σ H { s with heap:=h',toks:=tk }:=I.turned (λb o hb e=>kk b o (by simpa using hb) e) f0 f1 f3 f4 f5;refine⟨_,rfl,go_of (s:={ s with heap:=h',toks:=tk }) (n:="range_iterator") st' rfl rfl (by decide) ⟨.int (lo+i),H,I1,⟨t,?_⟩,⟨rfl,rfl⟩,st',λb hb=>(hf b hb).1⟩⟩;rw[Int.mul_one]
 done:=by
  intro X hP hw hK hc i pins s σ H E I hf st hg;subst hP hw hK;obtain⟨f0,f1,f2,f3,f4,f5⟩:=hf it (by simp);exact wpAny_pyNext_range_end (I.ok.hd hc) st (by have:n<=i:=hg;omega) λh' eb=>⟨rfl,I.turned (t':=s.toks) (λb o hb e=>eb b o hb e) f0 f1 f3 f4 f5⟩
 self:=λ_ _ _ _ _ st h=>wpAny_pyIter_rangeiter st h
section
variable{X:Cx}{tg:Expr}
theorem qAS{pins:List (Addr×Obj)}{σ:St}{H:Hp}{s:Shared}{R:It->Hp->Prop}{E:Value->Shared->Prop}{lo hi:Int}{t u v:Tok}{tk:Nat}(I:Inv X pins σ H s)(h1:-(2 ^ 62)<=lo)(h2:lo<2 ^ 62)(h3:-(2 ^ 62)<=hi)(h4:hi<2 ^ 62)
  (q:R (Itr lo (hi-lo).toNat) H):wpAny (model X.prog X.w) X.A (pyIter (.ref s.heap.objs.size)) (PIE X pins σ tg R) E { s with heap:=s.heap.push { cls:=.type "range",data:=.fields #[.int lo t,.int hi u,.int 1 v] },toks:=tk }:=by
 refine wpAny_pyIter_range (IsRange.new ..) (small_one h1 h2 h3 h4) ?_;have I1:Inv X pins σ H { s with heap:=s.heap.push { cls:=.type "range",data:=.fields #[.int lo t,.int hi u,.int 1 v] },toks:=tk }:=I.kept λb o e=>Heap.get?_push_of_some _ e;refine⟨(s.heap.push { cls:=.type "range",data:=.fields #[.int lo t,.int hi u,.int 1 v] }).objs.size,[(s.heap.push { cls:=.type "range",data:=.fields #[.int lo t,.int hi u,.int 1 v] }).objs.size],_,_,H,rfl,
  I1.kept (t':=tk) λb o e=>Heap.get?_push_of_some _ e,N7 _ lo (hi-lo).toNat,?_,λb hb=>?_,q⟩
 ·have e1:lo+((0:Nat):Int)*1=lo:=by simp
  have e2:(((hi-lo).toNat:Nat):Int)-((0:Nat):Int)=Builtin.Range.rangeSize lo hi 1:=by rw[rangeSize_one];split<;>omega
  show IsRangeIter _ _ (lo+((0:Nat):Int)*1) ((((hi-lo).toNat:Nat):Int)-((0:Nat):Int)) 1;rw[e1,e2];exact Heap.get?_push_size _ rfl
 ·have e:b=(s.heap.push { cls:=.type "range",data:=.fields #[.int lo t,.int hi u,.int 1 v] }).objs.size:=by simpa using hb
  subst e;exact I1.fpOk (wF _) (I1.hok.fresh (wF _))
noncomputable def qFq(ta:TA):TI:=λσ H R=>ta σ H λvs H1=>∃j:Int,vs=[.int j]/\-(2 ^ 62)<=j/\j<2 ^ 62/\R (Itr 0 j.toNat) H1
theorem pi_range1{a:Expr}{ta:TA}{p pos:Pos}(hg:Gl X "range")(hm:X.mg "range"=none)(ha:PA X [a] ta)(hs:starEach [a] X.env=[(false,eval a X.env)]:=by rfl):_P X tg (.Call (.Name "range" p) [a] [] pos) (qFq ta):=by
 intro pins s σ H R I h;refine Call_ (ld_blt I hg hm boot_range (PyProof.Rows.callWith_type1 (thn (ha pos pins s σ H _ I h) λus s1 ⟨vs,H1,I1,r1,q1⟩=>?_) hs rfl));obtain⟨j,e,q1,q2,q⟩:=q1;subst e;cases r1 with
 |cons r rr=>
  cases rr;obtain⟨t,rfl⟩:=r;exact call_range_1 (qAS I1 (by omega) (by omega) q1 q2 (by simpa using q))
noncomputable def qHq(wi:TI)(g:TG)(tb:TS):TS:=λD σ H=>wi σ H λJ H1=>∃W:Nat->Nat->St->Hp->Prop,(∃m,W 0 m σ H1)/\∀i m σ H,W i m σ H ->
 (J.stop i H/\D.nx σ H)\/(J.go i H/\∃N:St->Hp->Prop,(∀σ' H',N σ' H'->∃m',m'<m/\W (i+1) m' σ' H')/\∀x H',J.yld i H x H'->g x σ H' λσ2 H2=>tb { D with nx:=N,ct:=N,bk:=D.nx } σ2 H2)
noncomputable def JY(fp:List Addr)(h:Heap):List (Addr×Obj):=fp.filterMap λb=>(h.get? b).map λo=>(b,o)
theorem jR{fp:List Addr}{h:Heap}{b:Addr}{o:Obj}(hb:b∈fp)(e:h.get? b=some o):(b,o)∈JY fp h:=List.mem_filterMap.mpr ⟨b,hb,by rw[e];rfl⟩
theorem W0{fp:List Addr}{h:Heap}{p:Addr×Obj}(hp:p∈JY fp h):p.1∈fp/\h.get? p.1=some p.2:=by
 obtain⟨b,hb,e⟩:=List.mem_filterMap.mp hp;cases q:h.get? b with
 |none=>rw[q]at e;cases e
 |some o=>
  rw[q]at e;have e':(b,o)=p:=Option.some.inj e;subst e';exact⟨hb,q⟩
theorem Inv.pinned{pins:List (Addr×Obj)}{σ:St}{H:Hp}{s:Shared}{fp:List Addr}(I:Inv X pins σ H s)(hf:∀b∈fp,ZU X pins H b)(ho:∀b∈fp,∃o,s.heap.get? b=some o/\∀v,o.data≠.cell v):Inv X (pins++JY fp s.heap) σ H s:=
 I.pins_of λp hp=>(wJ.mp hp).elim (λz=>I.pin p (wS _ z)) λz=>by
  obtain⟨hb,e⟩:=W0 z;obtain⟨f0,f1,f2,_⟩:=hf p.1 hb;obtain⟨o,e',d⟩:=ho p.1 hb;rw[e]at e';cases e';exact⟨e,f0,f1,f2,d⟩
theorem Inv.unpinned{pins pl:List (Addr×Obj)}{σ:St}{H:Hp}{s:Shared}(I:Inv X (pins++pl) σ H s):Inv X pins σ H s:=I.pins_of λp hp=>I.pin p (wS _ (wP _ hp))
theorem ps_for{iter:Expr}{body:List Stmt}{wi:TI}{g:TG}{tb:TS}{pos:Pos}(hp:PassesOwn (model X.prog X.w) X.A X.env X.xe)(hc:X.calm=true)(hi:_P X tg iter wi)(hg:PG X tg g)(hb:PSs X body tb)
  (hs:∀x,foldedSetIterable iter X.env x=pure x:=by intro _;rfl):PS X (.For tg iter body [] pos) (qHq wi g tb):=by
 intro pins s σ H D I h;refine wpAny_For (thn (hi pins s σ H _ I h) λv s1 h1=>thn h1 λitv s2 h2=>?_) hs;obtain⟨it,fp,tn,J,H2,e,I2,T,st2,f2,W,⟨m0,w0⟩,qB0⟩:=h2;subst e;have stat:∀{H':Hp},(∀b∈fp,H' b=none)->∀b∈fp,ZU X pins H' b:=λhn b hb=>⟨hn b hb,(f2 b hb).2⟩
 refine codeAny_forLoop_any (λn s'=>∃i σ' H',Inv X pins σ' H' s'/\tn i s'.heap/\(∀b∈fp,H' b=none)/\W i n σ' H') ?_ m0 ⟨0,σ,H2,I2,st2,λb hb=>(f2 b hb).1,w0⟩;rintro n s3 ⟨i,σ3,H3,I3,st3,fr3,w3⟩;rcases qB0 i n σ3 H3 w3 with⟨stop,qn⟩|⟨go,N,hN,step⟩
 ·refine wpAny_passesOwn hp (thn (T.done X rfl rfl rfl hc i pins s3 σ3 H3 X.xe I3 (stat fr3) st3 stop) λr s4 ⟨hr,I4⟩=>?_);subst hr;exact wpAny_execs_nil ⟨σ3,H3,I4,qn⟩
 ·refine wpAny_passesOwn hp (thn (T.item X rfl rfl rfl hc i pins s3 σ3 H3 X.xe I3 (stat fr3) st3 go) λr s4 ⟨u,hr,h4⟩=>?_);subst hr;refine wpAny_passesOwn hp (thn h4 λ_ s5 ⟨x,H5,I5,r5,y5,st5,fr5⟩=>?_);have I5':=I5.pinned (stat fr5) (T.obj _ _ st5);refine wpAny_passesOwn hp (thn (hg _ s5 σ3 H5 x u _ I5' r5 (step x H5 y5)) λ_ s6 ⟨σ6,H6,I6,q6⟩=>?_);refine wpAny_passesOwn hp (thn (hb _ s6 σ6 H6 _ I6 q6) λf s7 q7=>?_);have again:∀{σ7:St}{H7:Hp},Inv X (pins++JY fp s5.heap) σ7 H7 s7->N σ7 H7->∃m,m<n/\∃i σ' H',Inv X pins σ' H' s7/\tn i s7.heap/\(∀b∈fp,H' b=none)/\W i m σ' H':=λ{σ7 H7} I7 n7=>by
   obtain⟨m',hm,w7⟩:=hN σ7 H7 n7;refine⟨m',hm,i+1,σ7,H7,I7.unpinned,T.keep _ _ _ st5 λb hb o e=>(I7.pin (b,o) (wS _ (wS _ (jR hb e)))).1,λb hb=>?_,w7⟩;obtain⟨o,e,d⟩:=T.obj _ _ st5 b hb;exact(I7.pin (b,o) (wS _ (wS _ (jR hb e)))).2.1
  cases f with
  |next=>obtain⟨σ7,H7,I7,n7⟩:=q7;exact again I7 n7
  |cont=>obtain⟨σ7,H7,I7,n7⟩:=q7;exact again I7 n7
  |brk=>obtain⟨σ7,H7,I7,q7⟩:=q7;exact⟨σ7,H7,I7.unpinned,q7⟩
  |ret v=>obtain⟨x7,σ7,H7,I7,r7,q7⟩:=q7;exact⟨x7,σ7,H7,I7.unpinned,r7,q7⟩
end
noncomputable abbrev R2:=V->V->Hp->VK->Prop
def OpR(X:Cx)(f:Value->Value->Sem Value)(r:R2):Prop:=
 ∀(pins:List (Addr×Obj)) (s:Shared) (σ:St) (H:Hp) (x y:V) (v u:Value) (Q:VK),Inv X pins σ H s->RelV x v->RelV y u->r x y H Q ->
  wpAny (model X.prog X.w) X.A (f v u) (EP X pins σ Q) X.xe s
def UnR(X:Cx)(f:Value->Sem Value)(r:V->Hp->VK->Prop):Prop:=
 ∀(pins:List (Addr×Obj)) (s:Shared) (σ:St) (H:Hp) (x:V) (v:Value) (Q:VK),Inv X pins σ H s->RelV x v->r x H Q ->
  wpAny (model X.prog X.w) X.A (f v) (EP X pins σ Q) X.xe s
def CallR(X:Cx)(f:Value)(r:List V->Hp->VK->Prop):Prop:=
 ∀(pins:List (Addr×Obj)) (s:Shared) (σ:St) (H:Hp) (xs:List V) (us:List Value) (Q:VK),Inv X pins σ H s->Vals xs us->r xs H Q ->
  wpAny (model X.prog X.w) X.A (call f us) (EP X pins σ Q) X.xe s
noncomputable def tOp(r:R2)(ta tb:TE):TE:=λσ H Q=>ta σ H λx H1=>tb σ H1 λy H2=>r x y H2 Q
noncomputable def tUn(r:V->Hp->VK->Prop)(ta:TE):TE:=λσ H Q=>ta σ H λx H1=>r x H1 Q
noncomputable def rI(C:Int->Int->Prop)(g:Int->Int->V):R2:=λx y H Q=>∃i j,x=.int i/\y=.int j/\C i j/\Q (g i j) H
noncomputable def rI0(g:Int->Int->V):R2:=λx y H Q=>∃i j,x=.int i/\y=.int j/\Q (g i j) H
def rU(g:Int->V):V->Hp->VK->Prop:=λx H Q=>∃i,x=.int i/\Q (g i) H
section
variable{X:Cx}{a b c:Expr}{ta tb tc:TE}{pos:Pos}
theorem qq(ha:PE X a ta)(hb:PE X b tb){pins:List (Addr×Obj)}{s:Shared}{σ:St}{H:Hp}{R:V->V->Hp->Prop}(I:Inv X pins σ H s)
  (h:ta σ H λx H1=>tb σ H1 λy H2=>R x y H2){Q:Value->Shared->Prop}{f:Value->Value->Sem Value}
  (hf:∀v u s2 x y H2,Inv X pins σ H2 s2->RelV x v->RelV y u->R x y H2->wpAny (model X.prog X.w) X.A (f v u) Q X.xe s2):
  wpAny (model X.prog X.w) X.A (eval a X.env) (λv s₁=>wpAny (model X.prog X.w) X.A (eval b X.env) (λu s₂=>wpAny (model X.prog X.w) X.A (f v u) Q X.xe s₂) X.xe s₁) X.xe s:=by
 refine thn (ha pins s σ H _ I h) λv s1 ⟨x,H1,I1,r1,q1⟩=>?_;refine thn (hb pins s1 σ H1 _ I1 q1) λu s2 ⟨y,H2,I2,r2,q2⟩=>?_;exact hf v u s2 x y H2 I2 r1 r2 q2
theorem pe_op{op:Operator}{r:R2}(ho:OpR X (binaryOp op) r)(ha:PE X a ta)(hb:PE X b tb):PE X (.BinOp a op b pos) (tOp r ta tb):=by
 intro pins s σ H Q I h;exact wpAny_BinOp (qq ha hb I h λv u s2 x y H2 I2 rx ry q=>ho pins s2 σ H2 x y v u Q I2 rx ry q)
theorem pe_un{op:UnaryOp}{r:V->Hp->VK->Prop}(ho:UnR X (unaryOp op) r)(ha:PE X a ta):PE X (.UnaryOp op a pos) (tUn r ta):=by
 intro pins s σ H Q I h;exact UnaryOp_ (thn (ha pins s σ H _ I h) λv s1 ⟨x,H1,I1,r1,q1⟩=>ho pins s1 σ H1 x v Q I1 r1 q1)
theorem opI{f:Value->Value->Sem Value}{C:Int->Int->Prop}{g:Int->Int->Int}
  (rule:∀(i j:Int) (t u:Tok) (s:Shared) (Q:Value->Shared->Prop) (E:Value->Shared->Prop),C i j->Q (.int (g i j) s.toks) { s with toks:=s.toks+1 }->wpAny (model X.prog X.w) X.A (f (.int i t) (.int j u)) Q E s):
  OpR X f (rI C λi j=>.int (g i j)):=by
 intro pins s σ H x y v u Q I rx ry h;obtain⟨i,j,rfl,rfl,hc,q⟩:=h;obtain⟨t,rfl⟩:=rx;obtain⟨t',rfl⟩:=ry;exact rule i j t t' s _ _ hc ⟨.int (g i j),H,I.tok _,⟨_,rfl⟩,q⟩
theorem qGd{f:Value->Value->Sem Value}{g:Int->Int->Int}
  (rule:∀(i j:Int) (t u:Tok) (s:Shared) (Q:Value->Shared->Prop) (E:Value->Shared->Prop),Q (.int (g i j) s.toks) { s with toks:=s.toks+1 }->wpAny (model X.prog X.w) X.A (f (.int i t) (.int j u)) Q E s):
  OpR X f (rI0 λi j=>.int (g i j)):=by
 intro pins s σ H x y v u Q I rx ry h;obtain⟨i,j,rfl,rfl,q⟩:=h;obtain⟨t,rfl⟩:=rx;obtain⟨t',rfl⟩:=ry;exact rule i j t t' s _ _ ⟨.int (g i j),H,I.tok _,⟨_,rfl⟩,q⟩
theorem qFR{f:Value->Value->Sem Value}{g:Int->Int->Bool}
  (rule:∀(i j:Int) (t u:Tok) (s:Shared) (Q:Value->Shared->Prop) (E:Value->Shared->Prop),Q (.bool (g i j)) s->wpAny (model X.prog X.w) X.A (f (.int i t) (.int j u)) Q E s):
  OpR X f (rI0 λi j=>.bl (g i j)):=by
 intro pins s σ H x y v u Q I rx ry h;obtain⟨i,j,rfl,rfl,q⟩:=h;obtain⟨t,rfl⟩:=rx;obtain⟨t',rfl⟩:=ry;exact rule i j t t' s _ _ ⟨.bl (g i j),H,I,rfl,q⟩
def CDiv(i j:Int):Prop:=0<j/\j<1073741824
def CPow(i j:Int):Prop:=0<=j/\j<=1000000/\i.natAbs<2 ^ 64
def CMul(i j:Int):Prop:=(-(2 ^ 64)<i/\i<2 ^ 64)\/(-(2 ^ 64)<j/\j<2 ^ 64)
theorem CMul.ok{i j:Int}(h:CMul i j):IntMulOk i j:=by
 rcases h with⟨h1,h2⟩|⟨h1,h2⟩
 ·exact .of_left (intBits_le_64 h1 h2)
 ·exact .of_right (intBits_le_64 h1 h2)
theorem op_add:OpR X (binaryOp .Add) (rI0 λi j=>.int (i+j)):=qGd λ_ _ _ _ _ _ _ q=>add_int q
theorem op_sub:OpR X (binaryOp .Sub) (rI0 λi j=>.int (i-j)):=qGd λ_ _ _ _ _ _ _ q=>sub_int q
theorem op_mul:OpR X (binaryOp .Mult) (rI CMul λi j=>.int (i*j)):=opI λ_ _ _ _ _ _ _ hc q=>mul_int q hc.ok
theorem op_fdiv:OpR X (binaryOp .FloorDiv) (rI CDiv λi j=>.int (i / j)):=opI λi j _ _ _ _ _ hc q=>by
 have h1:(0:Int)<j:=hc.1;have h2:j<1073741824:=hc.2;exact floordiv_int (by omega) (by rw[Int.fdiv_eq_ediv_of_nonneg i (by omega)];exact q) (.inl (PyProof.noPylong_small (by omega)))
theorem op_mod:OpR X (binaryOp .Mod) (rI (λ_ j=>0<j) λi j=>.int (i % j)):=opI λi j _ _ _ _ _ hc q=>by
 have h1:(0:Int)<j:=hc;exact mod_int' (by omega) (by rw[Int.fmod_eq_emod_of_nonneg i (by omega)];exact q)
theorem op_modN:OpR X (binaryOp .Mod) (rI (λ_ j=>j≠0) λi j=>.int (i.fmod j)):=opI λ_ _ _ _ _ _ _ hc q=>mod_int' hc q
theorem op_pow:OpR X (binaryOp .Pow) (rI CPow λi j=>.int (i ^ j.toNat)):=opI λ_ _ _ _ _ _ _ hc q=>pow_int_small hc.1 hc.2.1 hc.2.2 q
theorem op_shl:OpR X (binaryOp .LShift) (rI CPow λi j=>.int (i*2 ^ j.toNat)):=opI λ_ _ _ _ _ _ _ hc q=>lshift_int_small hc.1 hc.2.1 hc.2.2 q
theorem op_and:OpR X (binaryOp .BitAnd) (rI0 λi j=>.int (Builtin.bitAnd i j)):=qGd λ_ _ _ _ _ _ _ q=>and_int q
theorem unI{f:Value->Sem Value}{g:Int->Int}
  (rule:∀(i:Int) (t:Tok) (s:Shared) (Q:Value->Shared->Prop) (E:Value->Shared->Prop),Q (.int (g i) s.toks) { s with toks:=s.toks+1 }->wpAny (model X.prog X.w) X.A (f (.int i t)) Q E s):
  UnR X f (rU λi=>.int (g i)):=by
 intro pins s σ H x v Q I rx h;obtain⟨i,rfl,q⟩:=h;obtain⟨t,rfl⟩:=rx;exact rule i t s _ _ ⟨.int (g i),H,I.tok _,⟨_,rfl⟩,q⟩
theorem un_neg:UnR X (unaryOp .USub) (rU λi=>.int (-i)):=unI λ_ _ _ _ _ q=>neg_int q
end
section
variable{X:Cx}{a b c:Expr}{ta tb tc:TE}{pos:Pos}
theorem qBD{pins:List (Addr×Obj)}{σ:St}{H:Hp}{s:Shared}{Q:VK}{k k':Bool}(I:Inv X pins σ H s)(q:Q (.bl k) H)(e:k=k'):EP X pins σ Q (.bool k') s:=by
 subst e;exact⟨.bl k,H,I,rfl,q⟩
theorem op_lt:OpR X (compareOp .Lt) (rI0 λi j=>.bl (decide (i<j))):=qFR λ_ _ _ _ _ _ _ q=>lt_int q
theorem op_le:OpR X (compareOp .LtE) (rI0 λi j=>.bl (decide (i<=j))):=qFR λ_ _ _ _ _ _ _ q=>le_int q
theorem op_gt:OpR X (compareOp .Gt) (rI0 λi j=>.bl (decide (j<i))):=qFR λ_ _ _ _ _ _ _ q=>gt_int q
theorem op_ge:OpR X (compareOp .GtE) (rI0 λi j=>.bl (decide (j<=i))):=qFR λ_ _ _ _ _ _ _ q=>ge_int q
theorem op_isN:OpR X (compareOp .Is) (λx y H Q=>y=.non/\Q (.bl (decide (x=.non))) H):=by
 intro pins s σ H x y v u Q I rx ry h;obtain⟨rfl,q⟩:=h;cases ry;refine is_none_gen (qBD I q ?_);cases x<;>first
  | (cases rx;rfl)
  | (obtain⟨t,rfl⟩:=rx;rfl)
theorem op_notN:OpR X (compareOp .IsNot) (λx y H Q=>y=.non/\Q (.bl (!decide (x=.non))) H):=by
 intro pins s σ H x y v u Q I rx ry h;obtain⟨rfl,q⟩:=h;cases ry;refine isnot_none_gen (qBD I q ?_);cases x<;>first
  | (cases rx;rfl)
  | (obtain⟨t,rfl⟩:=rx;rfl)
theorem OpR.or{f:Value->Value->Sem Value}{r r':R2}(h:OpR X f r)(h':OpR X f r'):OpR X f (λx y H Q=>r x y H Q\/r' x y H Q):=by
 intro pins s σ H x y v u Q I rx ry q;rcases q with q|q
 ·exact h pins s σ H x y v u Q I rx ry q
 ·exact h' pins s σ H x y v u Q I rx ry q
theorem pe_cmpR{op:CmpOp}{r:R2}(ho:OpR X (compareOp op) r)(ha:PE X a ta)(hb:PE X b tb)(hm:behindInMarks op b=false):PE X (.Compare a [op] [b] pos) (tOp r ta tb):=by
 intro pins s σ H Q I h;exact wpAny_Compare1 (qq ha hb I h λv u s2 x y H2 I2 rx ry q=>ho pins s2 σ H2 x y v u Q I2 rx ry q) hm
noncomputable def qBY(t:TE):TT:=λσ H Q=>t σ H λx H'=>∃k,x=.bl k/\Q k H'
theorem pt_cmpR{op:CmpOp}{r:R2}(ho:OpR X (compareOp op) r)(ha:PE X a ta)(hb:PE X b tb)(hm:behindInMarks op b=false):PT X (.Compare a [op] [b] pos) (qBY (tOp r ta tb)):=by
 intro pins s σ H Q I h;refine wpAny_isTrue_Compare1 (thn (ha pins s σ H _ I h) λv s1 ⟨x,H1,I1,r1,q1⟩=>thn (hb pins s1 σ H1 _ I1 q1) λu s2 ⟨y,H2,I2,r2,q2⟩=>
  thn (ho pins s2 σ H2 x y v u _ I2 r1 r2 q2) λc s3 ⟨z,H3,I3,r3,k,e,q3⟩=>?_) hm
 subst e;cases r3;exact uJ ⟨H3,I3,q3⟩
noncomputable def tChain(r r':R2)(ta tb tc:TE):TE:=λσ H Q=>ta σ H λx H1=>tb σ H1 λy H2=>r x y H2 λz H3=>∃k,z=.bl k/\
 (if k=true then tc σ H3 λw' H4=>r' y w' H4 Q else Q (.bl false) H3)
theorem pe_chain{op op':CmpOp}{r r':R2}(ho:OpR X (compareOp op) r)(ho':OpR X (compareOp op') r')(ha:PE X a ta)(hb:PE X b tb)(hc:PE X c tc)
  (hm:lastMarks [op,op'] [b,c]=false:=by with_unfolding_all rfl):PE X (.Compare a [op,op'] [b,c] pos) (tChain r r' ta tb tc):=by
 intro pins s σ H Q I h;refine Compare_chain (thn (ha pins s σ H _ I h) λv s1 ⟨x,H1,I1,r1,q1⟩=>chain_link (thn (hb pins s1 σ H1 _ I1 q1) λu s2 ⟨y,H2,I2,r2,q2⟩=>
  thn (ho pins s2 σ H2 x y v u _ I2 r1 r2 q2) λd s3 ⟨z,H3,I3,r3,k,e,q3⟩=>?_)) hm
 subst e;cases r3;refine uJ ?_;cases k with
 |false=>exact ite_ff ⟨.bl false,H3,I3,rfl,q3⟩
 |true=>exact ite_tt (chain_last (thn (hc pins s3 σ H3 _ I3 q3) λw' s4 ⟨z',H4,I4,r4,q4⟩=>ho' pins s4 σ H4 y z' u w' Q I4 r2 r4 q4))
theorem pt_chain{op op':CmpOp}{r r':R2}(ho:OpR X (compareOp op) r)(ho':OpR X (compareOp op') r')(ha:PE X a ta)(hb:PE X b tb)(hc:PE X c tc)
  (hm:lastMarks [op,op'] [b,c]=false:=by with_unfolding_all rfl):PT X (.Compare a [op,op'] [b,c] pos) (qBY (tChain r r' ta tb tc)):=by
 intro pins s σ H Q I h;refine isTrue_chain (thn (ha pins s σ H _ I h) λv s1 ⟨x,H1,I1,r1,q1⟩=>test_link (thn (hb pins s1 σ H1 _ I1 q1) λu s2 ⟨y,H2,I2,r2,q2⟩=>
  thn (ho pins s2 σ H2 x y v u _ I2 r1 r2 q2) λd s3 ⟨z,H3,I3,r3,k,e,q3⟩=>?_)) hm
 subst e;cases r3;refine uJ ?_;cases k with
 |false=>
  obtain⟨k',e',q'⟩:=q3;cases e';exact ite_ff ⟨H3,I3,q'⟩
 |true=>
  refine ite_tt (test_last (thn (hc pins s3 σ H3 _ I3 q3) λw' s4 ⟨z',H4,I4,r4,q4⟩=>thn (ho' pins s4 σ H4 y z' u w' _ I4 r2 r4 q4) λd' s5 ⟨z2,H5,I5,r5,k2,e2,q5⟩=>?_));subst e2;cases r5;exact uJ ⟨H5,I5,q5⟩
theorem F9:(sizeLine:Nat)<2 ^ 63:=by rw[sizeLine_eq];decide
theorem vals1{x:V}{us:List Value}(r:Vals [x] us):∃u,us=[u]/\RelV x u:=by
 cases r with
 |cons r1 r2=>cases r2;exact⟨_,rfl,r1⟩
theorem vals2{x y:V}{us:List Value}(r:Vals [x,y] us):∃u w',us=[u,w']/\RelV x u/\RelV y w':=by
 cases r with
 |cons r1 r2=>
  cases r2 with
  |cons r3 r4=>cases r4;exact⟨_,_,rfl,r1,r3⟩
theorem call_abs:CallR X (.builtin "abs") (λxs H Q=>∃i,xs=[.int i]/\Q (.int (if i<0 then -i else i)) H):=by
 intro pins s σ H xs us Q I r h;obtain⟨i,rfl,q⟩:=h;obtain⟨u,rfl,t,rfl⟩:=vals1 r;exact call_abs_int λu tk=>⟨.int (if i<0 then -i else i),H,I.tok _,⟨_,rfl⟩,q⟩
theorem call_max2(hc:X.calm=true):CallR X (.builtin "max") (λxs H Q=>∃i j,xs=[.int i,.int j]/\Q (.int (if j>i then j else i)) H):=by
 intro pins s σ H xs us Q I r h;obtain⟨i,j,rfl,q⟩:=h;obtain⟨u,w',rfl,⟨t,rfl⟩,⟨t',rfl⟩⟩:=vals2 r;refine max_two_ints (I.ok.hd hc) λh' tk k=>⟨_,H,I.kept k,?_,q⟩
 by_cases hj:j>i
 ·rw[if_pos hj,if_pos hj];exact⟨_,rfl⟩
 ·rw[if_neg hj,if_neg hj];exact⟨_,rfl⟩
theorem call_min2(hc:X.calm=true):CallR X (.builtin "min") (λxs H Q=>∃i j,xs=[.int i,.int j]/\Q (.int (if j<i then j else i)) H):=by
 intro pins s σ H xs us Q I r h;obtain⟨i,j,rfl,q⟩:=h;obtain⟨u,w',rfl,⟨t,rfl⟩,⟨t',rfl⟩⟩:=vals2 r;refine min_two_ints (I.ok.hd hc) λh' tk k=>⟨_,H,I.kept k,?_,q⟩
 by_cases hj:j<i
 ·rw[if_pos hj,if_pos hj];exact⟨_,rfl⟩
 ·rw[if_neg hj,if_neg hj];exact⟨_,rfl⟩
theorem call_int1:CallR X (.type "int") (λxs H Q=>(∃i,xs=[.int i]/\Q (.int i) H)\/∃k,xs=[.bl k]/\Q (.int (if k then 1 else 0)) H):=by
 intro pins s σ H xs us Q I r h;rcases h with⟨i,rfl,q⟩|⟨k,rfl,q⟩
 ·obtain⟨u,rfl,t,rfl⟩:=vals1 r;exact call_int_int ⟨.int i,H,I,⟨_,rfl⟩,q⟩
 ·obtain⟨u,rfl,r1⟩:=vals1 r;cases r1;exact call_int_bool ⟨.int (if k then 1 else 0),H,I.tok _,⟨_,rfl⟩,q⟩
end
structure Room(k:Nat)(A:Around):Prop where
 hd:A.handled=none
 dp:A.depth+3*k+5<recursionLimit
 un:A.units+16*k+200<cLine
 gd:A.guards=some []
theorem Room.mono{j k:Nat}{A:Around}(r:Room k A)(h:j<=k):Room j A:=⟨r.hd,by have:=r.dp;omega,by have:=r.un;omega,r.gd⟩
theorem Room.deeper{k:Nat}{A:Around}(r:Room (k+1) A)(env:Env):Room k (A.deeper env):=
 ⟨r.hd,by have:=r.dp;show A.depth+1+3*k+5<_;omega,by have:=r.un;show A.units+3+16*k+200<_;omega,r.gd⟩
theorem Room.in1{k:Nat}{A:Around}(r:Room (k+1) A):Room k A.in1:=
 ⟨r.hd,by have:=r.dp;show A.depth+3*k+5<_;omega,by have:=r.un;show A.units+1+16*k+200<_;omega,r.gd⟩
theorem Room.depth{k:Nat}{A:Around}(r:Room k A):A.depth<recursionLimit:=by have:=r.dp;omega
theorem Room.units{k:Nat}{A:Around}(r:Room k A):A.units+64<cLine:=by have:=r.un;omega
noncomputable def qGt:TA:=λ_ H Q=>Q [] H
noncomputable def qGN(ta:TE)(tr:TA):TA:=λσ H Q=>ta σ H λx H1=>tr σ H1 λxs H2=>Q (x::xs) H2
section
variable{X:Cx}{e:Expr}{es:List Expr}{te:TE}{t:TA}{pos:Pos}
theorem pa_nil:PA X [] qGt:=λ_ _ _ _ H Q I h=>Calls.spliced_nil ⟨[],H,I,.nil,h⟩
theorem pa_cons(ha:PE X e te)(hr:PA X es t)(hs:starEach (e::es) X.env=(false,eval e X.env)::starEach es X.env:=by rfl):PA X (e::es) (qGN te t):=by
 intro pos pins s σ H Q I h;rw[hs];show wpAny _ _ (spliced ((false,eval e X.env)::backTo pos (starEach es X.env))) _ _ s;refine Calls.spliced_cons (thn (ha pins s σ H _ I h) λu s1 ⟨x,H1,I1,r1,q1⟩=>?_);exact thn (hr pos pins s1 σ H1 _ I1 q1) λus s2 ⟨xs,H2,I2,r2,q2⟩=>⟨x::xs,H2,I2,.cons r1 r2,q2⟩
noncomputable def qHs(t:TA):TE:=λσ H Q=>t σ H λxs H1=>xs.length<=sizeLine/\∀p,H1 p=none->Q (.ref p) (upd H1 p (.tup xs))
noncomputable def qH4(t:TA):TE:=λσ H Q=>t σ H λxs H1=>xs.length<=sizeLine/\∀p,H1 p=none->Q (.ref p) (upd H1 p (.lst xs))
theorem pe_tup {x1}(h:PA X es t):PE X (.Tuple es x1 pos) (qHs t):=by
 intro pins s σ H Q I hq;refine wpAny_Tuple_spliced (thn (h pos pins s σ H _ I hq) λus s1 ⟨xs,H1,I1,r,z,q⟩=>⟨by rw[<-r.length];exact z,?_⟩);have hf:H1 s1.heap.objs.size=none:=I1.hok.fresh (wF _);refine⟨.ref s1.heap.objs.size,upd H1 s1.heap.objs.size (.tup xs),I1.laid (t':=s1.toks) (λb u e=>Heap.get?_push_of_some _ e) (wF _) ?_,rfl,q _ hf⟩;exact⟨z,us,r,⟨_,Heap.get?_push_size _ rfl,rfl,_,rfl⟩⟩
theorem pe_lst(h:PA X es t):PE X (.List es pos) (qH4 t):=by
 intro pins s σ H Q I hq;refine wpAny_List_spliced (thn (h pos pins s σ H _ I hq) λus s1 ⟨xs,H1,I1,r,z,q⟩=>⟨by rw[<-r.length];exact z,?_⟩);have hf:H1 s1.heap.objs.size=none:=I1.hok.fresh (wF _);refine⟨.ref s1.heap.objs.size,upd H1 s1.heap.objs.size (.lst xs),I1.laid (t':=s1.toks) (λb u e=>Heap.get?_push_of_some _ e) (wF _) ?_,rfl,q _ hf⟩;exact⟨z,us,0,r,Heap.get?_push_size _ rfl⟩
end
noncomputable abbrev Sp:=List V->Hp->VK->XK->Prop
noncomputable abbrev CXT:=List Env->Hp->Shared->XK->Value->Shared->Prop
structure Env0(P:Program)(w:World)(K:PySem.W.Frag)(mg:Str->Option Value)(base:Heap)(A:Around)(outer:List Env)(s:Shared)(H:Hp):Prop where
 frames:A.frames=some outer
 mod:Mod K mg base
 bs:∀b o,base.get? b=some o->s.heap.get? b=some o/\H b=none
 bsz:base.objs.size<=s.heap.objs.size
 funs:s.heap.FunFrames base outer
 frf:∀b∈frs outer,H b=none
 hok:HOk P w H s.heap
 bare:AllBare s.gens
def CE(outer:List Env)(P:Program)(w:World)(H:Hp)(s:Shared)(Q:VK)(u:Value)(s':Shared):Prop:=
 ∃v H',s'.os=s.os/\AllBare s'.gens/\Un (frs outer) [] H H' s.heap s'.heap/\HOk P w H' s'.heap/\RelV v u/\Q v H'
def CR(CX:CXT)(outer:List Env)(P:Program)(w:World)(H:Hp)(s:Shared)(Q:VK)(E:XK)(r:Result)(s':Shared):Prop:=
 match r with
 | .ok (.ret u)=>CE outer P w H s Q u s'
 | .ok _=>False
 | .error e=>CX outer H s E e s'
structure FnOk(P:Program)(w:World)(K:PySem.W.Frag)(mg:Str->Option Value)(base:Heap)(CX:CXT)(k:Nat)(f:Addr)(fd:FuncData)(ps:List Str)(sp:Sp):Prop where
 len:∀vs H Q E,sp vs H Q E->vs.length=ps.length
 run:∀(A:Around) (outer:List Env) (s:Shared) (H:Hp) (args:Args) (us:List Value) (vs:List V) (Q:VK) (E:XK),Room k A->Env0 P w K mg base A outer s H->BindsTo s fd args (ps.zip us)->Vals vs us->sp vs H Q E ->
  codeAny (model P w) A (.call (.ref f) args) (CR CX outer P w H s Q E) s
theorem Env0.in1{P:Program}{w:World}{K:PySem.W.Frag}{mg:Str->Option Value}{base:Heap}{A:Around}{outer:List Env}{s:Shared}{H:Hp}(e:Env0 P w K mg base A outer s H):
  Env0 P w K mg base A.in1 outer s H:=⟨e.frames,e.mod,e.bs,e.bsz,e.funs,e.frf,e.hok,e.bare⟩
section
variable{X:Cx}{pins:List (Addr×Obj)}{σ:St}{H:Hp}{s s':Shared}
theorem Inv.env0(I:Inv X pins σ H s):Env0 X.prog X.w X.K X.mg X.base X.A X.stack s H:=
 ⟨I.ok.frames,I.ok.mod,I.bs,wG I.ok.bsz I.sz,I.stack,I.stkFree,I.hok,I.bare⟩
theorem Inv.after{Q:VK}{u:Value}(I:Inv X pins σ H s)(h:CE X.stack X.prog X.w H s Q u s'):EP X pins σ Q u s':=by
 obtain⟨v,H',os,bare,un,hok,r,q⟩:=h;obtain⟨hh,g,d,t,os'⟩:=s';obtain rfl:os'=s.os:=os;exact⟨v,H',I.call (h':=hh) (g':=g) (d':=d) (t':=t) (ch:=[]) un hok bare (λb z=>absurd z (by simp)),r,q⟩
end
noncomputable def tCall(sp:Sp)(dvs:List V)(E:XK)(t:TA):TE:=λσ H Q=>t σ H λvs H1=>sp (vs++dvs) H1 Q E
def Binds(K:PySem.W.Frag)(fd:FuncData)(ps:List Str)(ds:List Value):Prop:=
 ∀(s:Shared) (us:List Value),K.In s.heap->(us++ds).length=ps.length->BindsTo s fd ⟨us,[]⟩ (ps.zip (us++ds))
theorem Binds.all{K:PySem.W.Frag}{fd:FuncData}{ps:List Str}(h:∀us:List Value,us.length=ps.length->bindArgs fd ⟨us,[]⟩=pure (ps.zip us)):Binds K fd ps []:=λs us _ hl=>by
 rw[wO]at hl ⊢;exact .of_eq (h us hl)
def K2(CX:CXT)(X:Cx)(E:XK):Prop:=∀(pins:List (Addr×Obj)) (σ:St) (H:Hp) (s:Shared) (e:Value) (s':Shared),Inv X pins σ H s->CX X.stack H s E e s'->X.xe e s'
section
variable{X:Cx}{CX:CXT}{k:Nat}{f C:Addr}{fd:FuncData}{ps:List Str}{sp:Sp}{dvs:List V}{ds:List Value}{E:XK}{x m:Str}{p pos apos:Pos}{e o:Expr}{es:List Expr}{ta:TE}{t:TA}
theorem qBC{pins:List (Addr×Obj)}{σ:St}{H:Hp}{s:Shared}{Q:VK}{us:List Value}{vs:List V}(F:FnOk X.prog X.w X.K X.mg X.base CX k f fd ps sp)(hr:Room k X.A)(hb:Binds X.K fd ps ds)(hd:Vals dvs ds)(hx:K2 CX X E)
  (I:Inv X pins σ H s) (r:Vals vs us) (h:sp (vs++dvs) H Q E):wpAny (model X.prog X.w) X.A (call (.ref f) us) (EP X pins σ Q) X.xe s:=by
 have r2:Vals (vs++dvs) (us++ds):=r.append hd;have hl:(us++ds).length=ps.length:=by rw[<-r2.length];exact F.len _ _ _ _ h
 refine wpAny_call (codeAny_mono (F.run X.A X.stack s H ⟨us,[]⟩ (us++ds) (vs++dvs) Q E hr I.env0 (hb s us I.kIn hl) r2 h) λr s' hq=>?_);cases r with
 |error e=>exact hx pins σ H s e s' I hq
 |ok fl=>
  cases fl with
  |ret u=>exact I.after hq
  |next=>exact False.elim hq
  |brk=>exact False.elim hq
  |cont=>exact False.elim hq
theorem pe_call(F:FnOk X.prog X.w X.K X.mg X.base CX k f fd ps sp)(hr:Room k X.A)(hg:Gl X x)(hm:X.mg x=some (.ref f))(hk:PySem.W.keepIn X.K (.ref f)=true)(hb:Binds X.K fd ps ds)(hd:Vals dvs ds)(hx:K2 CX X E)
  (ha:PA X (e::es) t) (hdb:(x==("__debug__":Str))=false:=by decide) (he:starEach (e::es) X.env=(false,eval e X.env)::starEach es X.env:=by rfl) (hpl:(backTo pos (starEach es X.env)).any (·.1)=false:=by rfl):
  PE X (.Call (.Name x p) (e::es) [] pos) (tCall sp dvs E t):=by
 intro pins s σ H Q I h;refine wpAny_Call_Name_kw (ld_glob I hg hm ?_ hdb);refine PySem.W.callWith_K (h₀:=X.base) I.ok.mod.kin hk (thn (ha pos pins s σ H _ I h) λus s1 ⟨vs,H1,I1,r,q⟩=>⟨I1.kIn,?_⟩) he hpl;exact qBC F hr hb hd hx I1 r q
theorem pe_call0(F:FnOk X.prog X.w X.K X.mg X.base CX k f fd ps sp)(hr:Room k X.A)(hg:Gl X x)(hm:X.mg x=some (.ref f))(hk:PySem.W.keepIn X.K (.ref f)=true)(hb:Binds X.K fd ps ds)(hd:Vals dvs ds)(hx:K2 CX X E)
  (hdb:(x==("__debug__":Str))=false:=by decide):PE X (.Call (.Name x p) [] [] pos) (tCall sp dvs E qGt):=by
 intro pins s σ H Q I h;refine wpAny_Call_Name_kw (ld_glob I hg hm ?_ hdb);exact PySem.W.callWith_K0 I.kIn hk (qBC (us:=[]) F hr hb hd hx I .nil h)
end
structure zS(N P:List Str)(sc:Scope):Prop where
 kind:sc.kind=.function
 co:sc.isCoroutine=false
 gen:sc.isGenerator=false
 nd:N.Nodup
 pre:N.take P.length=P
 par:∀x∈P,sc.names.lookup x=some .local\/sc.names.lookup x=some .cell
 nofree:∀y∈sc.names,y.2≠.free
theorem JS{kindOf:Str->Option NameKind}{x:Str}:∀{binds:List (Str×Value)}{m:Str->Option Value},(∀v,(x,v)∉binds)->bindL kindOf binds m x=m x
 | [],_,_=>rfl
 | (n,v)::r,m,h=>by
  unfold bindL;rw[JS λw hw=>h w (wI _ hw)];split
  ·have:x≠n:=by rintro rfl;exact h v wM
   simp[this]
  ·rfl
theorem Jj{kindOf:Str->Option NameKind}{x:Str}:∀{binds:List (Str×Value)}{m:Str->Option Value},(∀v,(x,v)∉binds)->bindC kindOf binds m x=m x
 | [],_,_=>rfl
 | (n,v)::r,m,h=>by
  unfold bindC;rw[Jj λw hw=>h w (wI _ hw)];split
  ·rfl
  ·have:x≠n:=by rintro rfl;exact h v wM
   simp[this]
theorem JU{kindOf:Str->Option NameKind}{x:Str}{v:Value}:∀{P:List Str}{vs:List Value}{i:Nat}{m:Str->Option Value},P.Nodup->P[i]?=some x->vs[i]?=some v->kindOf x=some .local ->
  bindL kindOf (P.zip vs) m x=some v
 | [],_,_,_,_,h,_,_=>by simp at h
 |_::_,[],_,_,_,_,h,_=>by simp at h
 |p::P,w::vs,0,m,nd,h1,h2,hk=>by
  simp at h1 h2;subst h1;subst h2;show bindL kindOf ((p,w)::P.zip vs) m p=_;unfold bindL;rw[JS λv hv=>(vy.mp nd).1 (List.of_mem_zip hv).1,if_pos hk];simp
 |p::P,w::vs,i+1,m,nd,h1,h2,hk=>by
  show bindL kindOf ((p,w)::P.zip vs) m x=_;unfold bindL;exact JU (i:=i) (vy.mp nd).2 (by simpa using h1) (by simpa using h2) hk
theorem JV{kindOf:Str->Option NameKind}{x:Str}{v:Value}:∀{P:List Str}{vs:List Value}{i:Nat}{m:Str->Option Value},P.Nodup->P[i]?=some x->vs[i]?=some v->kindOf x≠some .local ->
  bindC kindOf (P.zip vs) m x=some v
 | [],_,_,_,_,h,_,_=>by simp at h
 |_::_,[],_,_,_,_,h,_=>by simp at h
 |p::P,w::vs,0,m,nd,h1,h2,hk=>by
  simp at h1 h2;subst h1;subst h2;show bindC kindOf ((p,w)::P.zip vs) m p=_;unfold bindC;rw[Jj λv hv=>(vy.mp nd).1 (List.of_mem_zip hv).1,if_neg hk];simp
 |p::P,w::vs,i+1,m,nd,h1,h2,hk=>by
  show bindC kindOf ((p,w)::P.zip vs) m x=_;unfold bindC;exact JV (i:=i) (vy.mp nd).2 (by simpa using h1) (by simpa using h2) hk
noncomputable def start(N:List Str)(vs:List V):St:=vs.map some++List.replicate (N.length-vs.length) none
noncomputable def cxOf(CX:CXT)(P:Program)(w:World)(K:PySem.W.Frag)(mg:Str->Option Value)(base:Heap)(N:List Str)(qual:Str)(scope:Scope)(f:Addr)(cd:Value)(A:Around)(outer:List Env)(s:Shared)(H:Hp)(E:XK):Cx where
 prog:=P
 w:=w
 K:=K
 mg:=mg
 base:=base
 A:=A.deeper (envOfC qual scope s.heap.objs.size f cd)
 N:=N
 s₀:=s
 H₀:=H
 env:=envOfC qual scope s.heap.objs.size f cd
 outer:=outer
 stack:=envOfC qual scope s.heap.objs.size f cd::outer
 ex:=[]
 calm:=true
 fn:=λ_=>true
 pn:=[]
 xe:=λe s'=>wpAny (model P w) (A.deeper (envOfC qual scope s.heap.objs.size f cd)) (leaving (envOfC qual scope s.heap.objs.size f cd) e) (λ_ s''=>CX outer H s E e s'') (λe' s''=>CX outer H s E e' s'') s'
theorem F7{sc:Scope}{n:Nat}{x:Str}(h:sc.names.lookup x=some .cell):∃c,(cellsFrom n sc.names []).lookup x=some c:=by
 have q:=PySem.W.cellsFrom_some sc.names n [] (.inl h);exact Option.isSome_iff_exists.mp q
theorem U8{CX:CXT}{P:Program}{w:World}{K:PySem.W.Frag}{mg:Str->Option Value}{base:Heap}{N ps:List Str}{qual:Str}{scope:Scope}{f:Addr}{cd:Value}{A:Around}{outer:List Env}{s s1:Shared}{H:Hp}{E:XK}{us:List Value}{vs:List V}
  (S:zS N ps scope) (hd:A.handled=none) (e0:Env0 P w K mg base A outer s H) (hl:vs.length=ps.length) (r:Vals vs us)
  (x:InCallC s s.heap.objs.size (bindL (envOfC qual scope s.heap.objs.size f cd).kindOf (ps.zip us) λ_=>none) (cellsFrom (s.heap.objs.size+1) scope.names []) (bindC (envOfC qual scope s.heap.objs.size f cd).kindOf (ps.zip us) λ_=>none) s1):
  Inv (cxOf CX P w K mg base N qual scope f cd A outer s H E) [] (start N vs) H s1:=by
 have hpl:ps.length<=N.length:=by have:=congrArg List.length S.pre;rw[vt]at this;omega
 obtain⟨h1,tk,rfl,hk⟩:=x.done;have noA:∀b:Addr,b∉(cxOf CX P w K mg base N qual scope f cd A outer s H E).ex:=λb z=>absurd (show b∈([]:List Addr) from z) (by simp);refine⟨⟨e0.mod,S.kind,rfl,rfl,wF _,λy z c h1 h2=>?_,λy hy=>?_,λy c _ h=>?_,λ_=>hd,Around.frames_deeper e0.frames,.inr ⟨rfl,rfl⟩,λb z=>absurd z (noA b),e0.bs,e0.bsz,λb _ _=>noA b,λb z=>absurd z (noA b),e0.funs,e0.frf⟩,
  rfl,e0.bare,Un.kept hk,⟨_,x.toInCall.ns,λi y v h1 h2 h3=>?_⟩,λy c h=>⟨_,x.cell y c h⟩,e0.hok.fresh (wF _),λy c h=>?_,λp hp=>absurd (show p∈([]:List (Addr×Obj)) from hp) (by simp),e0.hok.kept hk,?_⟩
 ·exact name_of_addr x.apart (PySem.mem_of_lookup h1) (PySem.mem_of_lookup h2)
 ·have hy:scope.names.lookup y=some .cell\/scope.names.lookup y=some .free:=hy;rcases hy with hy|hy
  ·exact F7 hy
  ·exact absurd rfl (S.nofree _ (PySem.mem_of_lookup hy))
 ·exact vF (x.above y c (PySem.mem_of_lookup h))
 ·have hi:i<vs.length:=by
   unfold start at h2;by_cases hi:i<vs.length
   ·exact hi
   ·rw[wQ (by simpa using hi)]at h2;rw[List.getElem?_replicate]at h2;split at h2<;>cases h2
  have ha:vs[i]?=some v:=by
   unfold start at h2;rw[wD (by simpa using hi),wj]at h2;cases e:vs[i]? with
   |none=>rw[e]at h2;cases h2
   |some a=>rw[e]at h2;cases h2;rfl
  obtain⟨u,hu,rv⟩:=r.get ha;have hp:ps[i]?=some y:=by
   rw[<-S.pre,vN (by omega)];exact h1
  have ndP:ps.Nodup:=by rw[<-S.pre];exact S.nd.sublist (List.take_sublist _ _)
  refine⟨u,rv,?_⟩;rcases S.par y (wR hp) with k|k
  ·exact .inl ⟨k,JU ndP hp hu k⟩
  ·obtain⟨c,e⟩:=F7 (n:=s.heap.objs.size+1) k;refine .inr ⟨.inl k,c,e,?_⟩;have q:=x.cell y c e;rw[JV ndP hp hu (by show scope.names.lookup y≠_;rw[k];decide)]at q;exact q
 ·exact e0.hok.fresh (vF (x.above y c (PySem.mem_of_lookup h)))
 ·unfold start;show _=N.length;rw[wT,wZ,List.length_replicate];omega
theorem fn_of{CX:CXT}{P:Program}{w:World}{K:PySem.W.Frag}{mg:Str->Option Value}{base:Heap}{k:Nat}{f:Addr}{name qual:Str}{params:Arguments}{body:List Stmt}{scope:Scope}{dV kV doc pm cdv ct oc:Value}{an od:Option Addr}
  {osl:Array (Option Value)}{N ps:List Str}{sp:Sp}(lk:K.lookup f=some ⟨oc,od,.func (PySem.W.fnOf name qual params body scope dV kV doc pm an cdv ct),osl⟩) (hcd:PySem.W.codeIn K cdv qual=true) (S:zS N ps scope)
  (len:∀vs H Q E,sp vs H Q E->vs.length=ps.length)
  (hbody:∀(A:Around) (outer:List Env) (s:Shared) (H:Hp) (vs:List V) (Q:VK) (E:XK),Room k (A.deeper (envOfC qual scope s.heap.objs.size f cdv))->sp vs H Q E ->
   ∃t,PSs (cxOf CX P w K mg base N qual scope f cdv A outer s H E) body t/\t { nx:=λ_ H'=>Q .non H',rt:=Q } (start N vs) H):
  FnOk P w K mg base CX (k+1) f (PySem.W.fnOf name qual params body scope dV kV doc pm an cdv ct) ps sp:=by
 refine⟨len,λA outer s H args us vs Q E hr e0 hb r hsp=>?_⟩;have hl:=len _ _ _ _ hsp;have KX:K.In s.heap:=e0.mod.kin.keeps λb o e=>(e0.bs b o e).1;have lim:s.heap.NoLimit:=e0.mod.nolimit.keeps λb o e=>(e0.bs b o e).1;have hkind:∀y∈ps.zip us,scope.names.lookup y.1=some .local\/(scope.names.lookup y.1=some .cell/\((cellsFrom (s.heap.objs.size+1) scope.names []).lookup y.1).isSome=true):=λ⟨n,v⟩ hy=>by
  rcases S.par n (List.of_mem_zip hy).1 with q|q
  ·exact .inl q
  ·exact .inr ⟨q,PySem.W.cellsFrom_some _ _ _ (.inl q)⟩
 refine codeAny_call_function hr.depth (KX _ _ lk) rfl S.co S.gen rfl (PySem.W.codeRec_of KX hcd) (hb _ _ _ _ ?_);refine wpAny_newFunctionEnv_cells S.kind hkind λenv he s1 x=>?_;subst he;refine⟨lim.keeps x.toInCall.keep,codeAny_func ?_⟩;obtain⟨t,ht,hq⟩:=hbody A outer s H vs Q E (hr.deeper _) hsp;have I:Inv (cxOf CX P w K mg base N qual scope f cdv A outer s H E) [] (start N vs) H s1:=U8 S hr.hd e0 hl r x;refine wpAny_mono (ht [] s1 (start N vs) H _ I hq) (λfl s' hs=>?_) λe s' hs=>hs;have fin:∀{σ':St}{H':Hp}{v:V}{u:Value},Inv (cxOf CX P w K mg base N qual scope f cdv A outer s H E) [] σ' H' s'->RelV v u->Q v H'->CE outer P w H s Q u s':=
  λ{σ' H' v u} J rv q=>⟨v,H',J.os,J.bare,J.base,J.hok,rv,q⟩
 cases fl with
 |ret u=>
  obtain⟨v,σ',H',J,rv,q⟩:=hs;exact fin J rv q
 |next=>
  obtain⟨σ',H',J,q⟩:=hs;exact fin (v:=V.non) (u:=Value.none) J rfl q
 |brk=>
  obtain⟨_,_,_,q⟩:=hs;exact False.elim q
 |cont=>
  obtain⟨_,_,_,q⟩:=hs;exact False.elim q
section
variable{X:Cx}{x:Str}{p pos:Pos}{e:Expr}{es:List Expr}{t:TA}{id T:String}{r:List V->Hp->VK->Prop}
noncomputable def tCB(r:List V->Hp->VK->Prop)(t:TA):TE:=λσ H Q=>t σ H λvs H1=>r vs H1 Q
theorem pe_callB(hc:CallR X (.builtin id) r)(hg:Gl X x)(hm:X.mg x=none)(hv:bootBuiltins x=some (.builtin id))(ha:PA X (e::es) t)(hn:x≠"__name__":=by decide)(hdb:(x==("__debug__":Str))=false:=by decide)
  (he:starEach (e::es) X.env=(false,eval e X.env)::starEach es X.env:=by rfl) (hpl:(backTo pos (starEach es X.env)).any (·.1)=false:=by rfl):PE X (.Call (.Name x p) (e::es) [] pos) (tCB r t):=by
 intro pins s σ H Q I h;refine wpAny_Call_Name_kw (ld_blt I hg hm hv ?_ hn hdb);exact PyProof.Rows.callWith_builtin1 (thn (ha pos pins s σ H _ I h) λus s1 ⟨vs,H1,I1,r1,q1⟩=>hc pins s1 σ H1 vs us Q I1 r1 q1) he hpl
theorem pe_callTy(hc:CallR X (.type T) r)(hg:Gl X x)(hm:X.mg x=none)(hv:bootBuiltins x=some (.type T))(ha:PA X (e::es) t)(hn:x≠"__name__":=by decide)(hdb:(x==("__debug__":Str))=false:=by decide)
  (he:starEach (e::es) X.env=(false,eval e X.env)::starEach es X.env:=by rfl) (hpl:(backTo pos (starEach es X.env)).any (·.1)=false:=by rfl):PE X (.Call (.Name x p) (e::es) [] pos) (tCB r t):=by
 intro pins s σ H Q I h;refine wpAny_Call_Name_kw (ld_blt I hg hm hv ?_ hn hdb);exact PyProof.Rows.callWith_type1 (thn (ha pos pins s σ H _ I h) λus s1 ⟨vs,H1,I1,r1,q1⟩=>hc pins s1 σ H1 vs us Q I1 r1 q1) he hpl
end
end _L
namespace _H
open PySem PyProof.Rows
section
variable{prog:Program}{w:World}{A:Around}{E:Value->Shared->Prop}{s:Shared}
theorem cat_tup{t b:Addr}{vs ws:List Value}{Q:Value->Shared->Prop}(ht:IsTup s.heap t vs.toArray)(hb:IsTup s.heap b ws.toArray)(hv:vs≠[])
  (h1:ws=[]->Q (.ref t) s) (h2:ws≠[]->Q (.ref s.heap.objs.size) { s with heap:=s.heap.push { cls:=.type "tuple",data:=.seq (vs++ws).toArray } })
  (hsz:vs.length+ws.length<=sizeLine):wpAny (model prog w) A (binaryOp .Add (.ref t) (.ref b)) Q E s:=by
 obtain⟨⟨cls,dd,data,sl⟩,ho,hc,n,hd⟩:=id ht;obtain⟨⟨cls2,dd2,data2,sl2⟩,ho2,hc2,n2,hd2⟩:=id hb;simp only at hc hd hc2 hd2;subst hc hd hc2 hd2;have e:vs.toArray++ws.toArray=(vs++ws).toArray:=by simp
 by_cases hw:ws=[]
 ·exact concat_meets ⟨_,ho,rfl⟩ ⟨_,ho2,rfl⟩ noFill_tuple_add seq_tuple_add PySem.F.slot_tuple_add PySem.F.entry_tuple_add (PySem.F.args_tuple_add_2 _ _)
   (tuple_addW1 t b vs.toArray ws.toArray n n2 dd dd2 sl sl2 (by simpa using hv) (by simp[hw])) ⟨ho,ho2,h1 hw⟩
 ·refine concat_meets ⟨_,ho,rfl⟩ ⟨_,ho2,rfl⟩ noFill_tuple_add seq_tuple_add PySem.F.slot_tuple_add PySem.F.entry_tuple_add (PySem.F.args_tuple_add_2 _ _)
   (tuple_addW2 t b vs.toArray ws.toArray n n2 dd dd2 sl sl2 (by simpa using hv) (by simpa using hw) (by rw[wK,wK];exact hsz)) ⟨ho,ho2,?_⟩
  rw[e];exact h2 hw
noncomputable def sIx(n d:Nat):Option Int->Nat
 |none=>d
 |some v=>if v<0 then (v+(n:Int)).toNat else min v.toNat n
theorem qEu(n d:Nat)(hd:d<=n)(o:Option Int):sIx n d o<=n:=by
 cases o with
 |none=>exact hd
 |some v=>
  show (if v<0 then (v+(n:Int)).toNat else min v.toNat n)<=n;by_cases hv:v<0
  ·rw[if_pos hv];omega
  ·rw[if_neg hv];exact Nat.min_le_right _ _
theorem Z2(v:Int)(n d:Nat):(if v<0 then max (v+(n:Int)) 0 else min v (n:Int))=((sIx n d (some v):Nat):Int):=by
 show (if v<0 then max (v+(n:Int)) 0 else min v (n:Int))=(((if v<0 then (v+(n:Int)).toNat else min v.toNat n):Nat):Int);by_cases hv:v<0
 ·simp only[if_pos hv];omega
 ·simp only[if_neg hv];omega
theorem O1(lo hi:Option Int)(n:Nat):Builtin.Slice.sliceAdjust lo hi 1 (n:Int)=(((sIx n 0 lo:Nat):Int),((sIx n n hi:Nat):Int)):=by
 have h1:¬ ((1:Int)<0):=by omega
 unfold Builtin.Slice.sliceAdjust;simp only[h1,if_false];refine Prod.ext ?_ ?_
 ·cases lo with
  |none=>rfl
  |some v=>exact Z2 v n 0
 ·cases hi with
  |none=>rfl
  |some v=>exact Z2 v n n
theorem O2(i j:Nat):Builtin.Slice.slicePlaces (i:Int) (j:Int) 1=j-i:=by
 unfold Builtin.Slice.slicePlaces;have h1:(1:Int)>0:=by omega
 simp only[h1,if_true,Int.ediv_one];split<;>omega
theorem Zk{v:Value}{o:Option Int}{Q:Option Int->Shared->Prop}(p:IsPart v o)(h:Q o s):wpAny (model prog w) A (Builtin.Slice.slicePartIndex v) Q E s:=by
 cases p with
 |none=>exact slicePart_none h
 |int i t=>exact slicePart_int h
theorem QX{sl:Addr}{vl vu:Value}{lo hi:Option Int}{n:Nat}{Q:Int×Int×Nat->Shared->Prop}(hs:s.heap.IsSliceOf sl vl vu .none)(pl:IsPart vl lo)(pu:IsPart vu hi)
  (h:Q (((sIx n 0 lo:Nat):Int),1,sIx n n hi-sIx n 0 lo) s):wpAny (model prog w) A (Builtin.Slice.sliceApplied (.ref sl) (pure (n:Int))) Q E s:=by
 obtain⟨os,hos,hcs,hds⟩:=id hs;unfold Builtin.Slice.sliceApplied Builtin.Slice.sliceFields;refine uD (uD (wpAny_field hos hds (x:=vl) rfl (uD (wpAny_field hos hds (x:=vu) rfl (uD (wpAny_field hos hds (x:=.none) rfl (uE ?_)))))));refine uD (slicePart_none ?_);show wpAny _ _ (if ((1:Int)==0)=true then _ else _) _ _ s;rw[if_neg (by decide)];refine uD (Zk pl (uD (Zk pu (uD (uE ?_)))));show wpAny _ _ (match Builtin.Slice.sliceAdjust lo hi 1 (n:Int) with|(lo,hi)=>pure (lo,(1:Int),Builtin.Slice.slicePlaces lo hi 1)) _ _ s;rw[O1 lo hi n];show wpAny _ _ (pure (((sIx n 0 lo:Nat):Int),(1:Int),Builtin.Slice.slicePlaces ((sIx n 0 lo:Nat):Int) ((sIx n n hi:Nat):Int) 1)) _ _ s;rw[O2];exact uE h
theorem qAL(xs:Array Value)(i k:Nat):((List.range k).filterMap λ(m:Nat)=>xs[((i:Int)+(m:Int)*1).toNat]?).toArray=((xs.toList.drop i).take k).toArray:=by
 have e:(λ(m:Nat)=>xs[((i:Int)+(m:Int)*1).toNat]?)=λm=>xs[i+m]?:=by
  funext m
  have:((i:Int)+(m:Int)*1).toNat=i+m:=by omega
  rw[this]
 rw[e];have:=pick_run xs i k;rw[List.filterMap_map]at this;have e2:((λx=>xs[x]?)∘λx=>i+x)=λm=>xs[i+m]?:=rfl;rw[e2]at this;rw[this]
theorem getItem_tuple_cut{t sl:Addr}{items:Array Value}{vl vu:Value}{lo hi:Option Int}{Q:Value->Shared->Prop}(ht:IsTup s.heap t items)(hs:s.heap.IsSliceOf sl vl vu .none)(pl:IsPart vl lo)(pu:IsPart vu hi)
  (hw:¬ (sIx items.size 0 lo=0/\sIx items.size items.size hi=items.size))
  (h:Q (.ref s.heap.objs.size) { s with heap:=s.heap.push { cls:=.type "tuple",data:=.seq ((items.toList.drop (sIx items.size 0 lo)).take (sIx items.size items.size hi-sIx items.size 0 lo)).toArray } })
  (hsz:items.size<=sizeLine):wpAny (model prog w) A (getItem (.ref t) (.ref sl)) Q E s:=by
 have htake:sizeOk (.seq ((items.toList.drop (sIx items.size 0 lo)).take (sIx items.size items.size hi-sIx items.size 0 lo)).toArray):=by
  show ((items.toList.drop (sIx items.size 0 lo)).take (sIx items.size items.size hi-sIx items.size 0 lo)).toArray.size<=sizeLine;rw[wK,vt,List.length_drop,vD];omega
 have hj:sIx items.size items.size hi<=items.size:=qEu _ _ (wF _) hi;obtain⟨os,hos,hcs,hds⟩:=id hs;have hTs:s.TypeIs (.ref sl) "slice":=⟨os,hos,hcs⟩
 unfold getItem
 try with_reducible refine wpAny_holding ?_
 first|refine uD (uE ?_)|skip
 refine uD (wpAny_sequenceKey ht.typeIs (by decide) ?_);refine uD (wpAny_callSpecial?_slot (name:=Str.ofString "__getitem__") ht.typeIs PyProof.Rows.slot_tuple_getitem
  (wpAny_call_entry PyProof.Rows.slot_tuple_getitem ht.typeIs entry_tuple_getitem ?_ (args_tuple_getitem _ _)))
 show wpAny _ _ (Builtin.Tuple.tupleItemsOf (.ref t) >>=_) _ _ s;refine uD (tupleItemsOf_ ht ?_);refine uD (wpAny_typeOf hTs ?_);rw[if_pos (by decide)];refine uD (QX hs pl pu ?_);have hno:¬ ((((sIx items.size 0 lo:Nat):Int)==0&&(1:Int)==1&&(sIx items.size items.size hi-sIx items.size 0 lo)==items.size)=true):=by
  intro q;rw[wC,wC]at q;have q1:((sIx items.size 0 lo:Nat):Int)=0:=eq_of_beq q.1.1;have q2:sIx items.size items.size hi-sIx items.size 0 lo=items.size:=eq_of_beq q.2;exact hw ⟨by omega,by omega⟩
 show wpAny _ _ (if (((sIx items.size 0 lo:Nat):Int)==0&&(1:Int)==1&&(sIx items.size items.size hi-sIx items.size 0 lo)==items.size)=true then _ else _) _ _ s;rw[if_neg hno,qAL]
 first
  |exact uD (m:=Builtin.Tuple.tupleExact _) (wpAny_newObj_type (uE ⟨_,rfl,uE h⟩) htake)
  |exact uD (m:=Builtin.Tuple.tupleExact _) (wpAny_newObj_type (uD (uE (uE ⟨_,rfl,uE h⟩))) htake)
  |exact uD (uD (m:=Builtin.Tuple.tupleExact _) (wpAny_newObj_type (uE (uE ⟨_,rfl,uE h⟩)) htake))
  |exact uD (uD (m:=Builtin.Tuple.tupleExact _) (wpAny_newObj_type (uE ⟨_,rfl,uE h⟩) htake))
end
end _H
namespace _L
open PySem PySem.Spec PyProof.Rows
noncomputable abbrev TO:=St->Hp->(Option Int->Hp->Prop)->Prop
def PO(X:Cx)(e:Option Expr)(t:TO):Prop:=
 ∀(pins:List (Addr×Obj)) (s:Shared) (σ:St) (H:Hp) (Q:Option Int->Hp->Prop),Inv X pins σ H s->t σ H Q ->
  wpAny (model X.prog X.w) X.A (evalPart e X.env) (λu s'=>∃o H',Inv X pins σ H' s'/\IsPart u o/\Q o H') X.xe s
noncomputable def qBZ:TO:=λ_ H Q=>Q none H
noncomputable def qFv(t:TE):TO:=λσ H Q=>t σ H λx H1=>∃i,x=.int i/\Q (some i) H1
theorem intsAre_of{ns:List Int}:∀{us:List Value},Vals (ns.map V.int) us->IntsAre us ns:=by
 induction ns with
 |nil=>intro us r;rw[List.map_nil]at r;cases r;exact .nil
 |cons n ns ih=>
  intro us r;rw[List.map_cons]at r;cases r with
  |cons r1 r2=>
   obtain⟨t,e⟩:=r1;subst e;exact .cons n t (ih r2)
section
variable{X:Cx}{e:Expr}{te:TE}{lo hi:Option Expr}{tl th:TO}{pos p2:Pos}
theorem po_none:PO X none qBZ:=by
 intro pins s σ H Q I h;rw[evalPart_none];exact uE ⟨none,H,I,.none,h⟩
theorem po_some(h:PE X e te):PO X (some e) (qFv te):=by
 intro pins s σ H Q I hw;rw[evalPart_some];refine thn (h pins s σ H _ I hw) λu s1 ⟨x,H1,I1,r1,q1⟩=>?_;obtain⟨i,rfl,q⟩:=q1;obtain⟨t,rfl⟩:=r1;exact⟨some i,H1,I1,.int i t,q⟩
def SlR(X:Cx)(r:V->Option Int->Option Int->Hp->VK->Prop):Prop:=
 ∀(pins:List (Addr×Obj)) (s:Shared) (σ:St) (H:Hp) (x:V) (v vl vu:Value) (lo hi:Option Int) (sl:Addr) (Q:VK),Inv X pins σ H s->RelV x v->s.heap.IsSliceOf sl vl vu .none->IsPart vl lo->IsPart vu hi->r x lo hi H Q ->
  ∃T id,typeLookup (.type T) "__getitem__"=pure (some (.builtin id))/\s.TypeIs v T/\wpAny (model X.prog X.w) X.A (getItem v (.ref sl)) (EP X pins σ Q) X.xe s
theorem SlR.or{r r':V->Option Int->Option Int->Hp->VK->Prop}(h:SlR X r)(h':SlR X r'):SlR X (λx lo hi H Q=>r x lo hi H Q\/r' x lo hi H Q):=by
 intro pins s σ H x v vl vu lo hi sl Q I rx hs pl pu q;rcases q with q|q
 ·exact h pins s σ H x v vl vu lo hi sl Q I rx hs pl pu q
 ·exact h' pins s σ H x v vl vu lo hi sl Q I rx hs pl pu q
noncomputable def tSl(r:V->Option Int->Option Int->Hp->VK->Prop)(te:TE)(tl th:TO):TE:=λσ H Q=>te σ H λx H1=>tl σ H1 λl H2=>th σ H2 λu H3=>r x l u H3 Q
theorem pe_slice{r:V->Option Int->Option Int->Hp->VK->Prop}(hr:SlR X r)(he:PE X e te)(hl:PO X lo tl)(hu:PO X hi th):PE X (.Subscript e (.Slice lo hi none p2) pos) (tSl r te tl th):=by
 intro pins s σ H Q I h;refine Subscript_ (thn (he pins s σ H _ I h) λv s1 ⟨x,H1,I1,r1,q1⟩=>?_);refine wpAny_Slice (thn (hl pins s1 σ H1 _ I1 q1) λvl s2 ⟨l,H2,I2,pl,q2⟩=>thn (hu pins s2 σ H2 _ I2 q2) λvu s3 ⟨u,H3,I3,pu,q3⟩=>?_);rw[evalPart_none];refine uE ?_;have I4:Inv X pins σ H3 { s3 with heap:=s3.heap.push { cls:=.type "slice",data:=.fields #[vl,vu,.none] } }:=I3.kept (t':=s3.toks) λb ob q=>Heap.get?_push_of_some _ q;obtain⟨T,id,hT,ht,hg⟩:=hr pins { s3 with heap:=s3.heap.push { cls:=.type "slice",data:=.fields #[vl,vu,.none] } } σ H3 x v vl vu l u s3.heap.objs.size Q I4 r1 (Heap.IsSliceOf.new ..) pl pu q3;show wpAny (model X.prog X.w) X.A (subscriptTail e (.Slice lo hi none p2) v (.ref s3.heap.objs.size)) (EP X pins σ Q) X.xe { s3 with heap:=s3.heap.push { cls:=.type "slice",data:=.fields #[vl,vu,.none] } };exact tail_any (ops:=[.ref s3.heap.objs.size,v]) ht hT hg (by with_unfolding_all rfl)
noncomputable def cutV(xs:List V)(lo hi:Option Int):List V:=(xs.drop (_H.sIx xs.length 0 lo)).take (_H.sIx xs.length xs.length hi-_H.sIx xs.length 0 lo)
theorem ZL(xs:List V)(lo hi:Option Int):(cutV xs lo hi).length<=xs.length:=by
 unfold cutV;rw[vt,List.length_drop];omega
def qIF(K:PySem.W.Frag):V->Option Int->Option Int->Hp->VK->Prop:=λx lo hi H Q=>∃a xs,x=.ref a/\SqT K H a xs/\
 ¬ (_H.sIx xs.length 0 lo=0/\_H.sIx xs.length xs.length hi=xs.length)/\∀p,H p=none->Q (.ref p) (upd H p (.tup (cutV xs lo hi)))
theorem sl_tup:SlR X (qIF X.K):=by
 intro pins s σ H x v vl vu lo hi sl Q I rx hs pl pu h;obtain⟨a,xs,rfl,hx,hw,q⟩:=h;cases rx;obtain⟨its,r,ht,hz⟩:=I.tuple hx;have hlen:its.toArray.size=xs.length:=by rw[wK];exact r.length.symm
 refine⟨"tuple",_,PyProof.Rows.slot_tuple_getitem.lookup,ht.typeIs,?_⟩;refine _H.getItem_tuple_cut ht hs pl pu (by rw[hlen];exact hw) ?_ (by rw[hlen];exact hz);rw[hlen];refine⟨.ref s.heap.objs.size,_,I.laid (t':=s.toks) (o:=.tup (cutV xs lo hi)) (λb ob q=>Heap.get?_push_of_some _ q) (wF _) ?_,rfl,q _ (I.hok.fresh (wF _))⟩;exact⟨wG (ZL xs lo hi) hz,_,(r.drop (_H.sIx xs.length 0 lo)).take (_H.sIx xs.length xs.length hi-_H.sIx xs.length 0 lo),IsTup.new _ _⟩
noncomputable def rCatT(K:PySem.W.Frag):R2:=λx y H Q=>∃a b xs ys,x=.ref a/\y=.ref b/\SqT K H a xs/\SqT K H b ys/\xs≠[]/\xs.length+ys.length<=sizeLine/\
 (ys=[]->Q (.ref a) H)/\(ys≠[]->∀p,H p=none->Q (.ref p) (upd H p (.tup (xs++ys))))
theorem Vals.nil_iff{xs:List V}{us:List Value}(r:Vals xs us):us=[]↔xs=[]:=by
 cases r with
 |nil=>simp
 |cons _ _=>simp
theorem op_catT:OpR X (binaryOp .Add) (rCatT X.K):=by
 intro pins s σ H x y v u Q I rx ry h;obtain⟨a,b,xs,ys,rfl,rfl,ha,hb,hx,hz,q1,q2⟩:=h;cases rx;cases ry;obtain⟨its,r1,p1,_⟩:=I.tuple ha;obtain⟨its2,r2,p2,_⟩:=I.tuple hb;refine _H.cat_tup p1 p2 (λz=>hx (r1.nil_iff.mp z)) (λz=>⟨.ref a,H,I,rfl,q1 (r2.nil_iff.mp z)⟩) (λz=>?_) (by rw[<-r1.length,<-r2.length];exact hz);refine⟨.ref s.heap.objs.size,_,I.laid (t':=s.toks) (o:=.tup (xs++ys)) (λb ob q=>Heap.get?_push_of_some _ q) (wF _) ?_,rfl,q2 (λw=>z (r2.nil_iff.mpr w)) _ (I.hok.fresh (wF _))⟩;exact⟨by rw[wT];exact hz,_,r1.append r2,IsTup.new _ _⟩
end
noncomputable def ixN(n:Nat)(i:Int):Option Nat:=if 0<=i then (if i<n then some i.toNat else none) else if -(n:Int)<=i then some (i+n).toNat else none
noncomputable def atI{α:Type}(xs:List α)(i:Int):Option α:=(ixN xs.length i).bind λj=>xs[j]?
theorem T2{n:Nat}{i:Int}{j:Nat}(h:ixN n i=some j):seqIndex? i n=some j/\j<n/\-(n:Int)<=i/\i<n:=by
 unfold ixN at h;by_cases h0:0<=i
 ·rw[if_pos h0]at h;by_cases h1:i<n
  ·rw[if_pos h1]at h;have e:i.toNat=j:=Option.some.inj h;exact⟨by rw[seqIndex_of h0 h1,e],by omega,by omega,h1⟩
  ·rw[if_neg h1]at h;cases h
 ·rw[if_neg h0]at h;by_cases h1:-(n:Int)<=i
  ·rw[if_pos h1]at h;have e:(i+n).toNat=j:=Option.some.inj h;exact⟨by rw[seqIndex_neg (by omega) h1,e],by omega,h1,by omega⟩
  ·rw[if_neg h1]at h;cases h
theorem V4{α:Type}{xs:List α}{i:Int}{v:α}(h:atI xs i=some v):∃j,seqIndex? i xs.length=some j/\xs[j]?=some v/\j<xs.length/\-(xs.length:Int)<=i/\i<xs.length:=by
 unfold atI at h;cases e:ixN xs.length i with
 |none=>rw[e]at h;cases h
 |some j=>
  rw[e]at h;obtain⟨h1,h2,h3,h4⟩:=T2 e;exact⟨j,h1,h,h2,h3,h4⟩
def PlainIx(b:Expr):Prop:=∀o i,subscripted b false o i=operate [o,i] (getItem o i)
def IxR(X:Cx)(r:R2):Prop:=
 ∀(value slice:Expr) (pins:List (Addr×Obj)) (s:Shared) (σ:St) (H:Hp) (x y:V) (v u:Value) (Q:VK),Inv X pins σ H s->RelV x v->RelV y u->r x y H Q ->
  subscripted slice false v u=operate [v,u] (getItem v u)->wpAny (model X.prog X.w) X.A (subscriptTail value slice v u) (EP X pins σ Q) X.xe s
def MtR(X:Cx)(id:String)(r:V->List V->Hp->VK->Prop):Prop:=
 ∀(pins:List (Addr×Obj)) (s:Shared) (σ:St) (H:Hp) (x:V) (xs:List V) (v:Value) (us:List Value) (Q:VK),Inv X pins σ H s->RelV x v->Vals xs us->r x xs H Q ->
  wpAny (model X.prog X.w) X.A (call (.builtin id) (v::us)) (EP X pins σ Q) X.xe s
section
variable{X:Cx}{a b:Expr}{ta tb:TE}{pos:Pos}
theorem IxR.or{r r':R2}(h:IxR X r)(h':IxR X r'):IxR X (λx y H Q=>r x y H Q\/r' x y H Q):=by
 intro value slice pins s σ H x y v u Q I rx ry q hs;rcases q with q|q
 ·exact h value slice pins s σ H x y v u Q I rx ry q hs
 ·exact h' value slice pins s σ H x y v u Q I rx ry q hs
theorem pe_ix{r:R2}(hr:IxR X r)(ha:PE X a ta)(hb:PE X b tb)(hs:PlainIx b):PE X (.Subscript a b pos) (tOp r ta tb):=by
 intro pins s σ H Q I h;exact Subscript_ (qq ha hb I h λv u s2 x y H2 I2 rx ry q=>hr a b pins s2 σ H2 x y v u Q I2 rx ry q (hs _ _))
noncomputable def qIG(K:PySem.W.Frag):R2:=λx y H Q=>∃p xs i v,x=.ref p/\y=.int i/\SqL K H p xs/\atI xs i=some v/\Q v H
noncomputable def qHk(K:PySem.W.Frag):R2:=λx y H Q=>∃p xs i v,x=.ref p/\y=.int i/\SqT K H p xs/\atI xs i=some v/\Q v H
theorem ix_list:IxR X (qIG X.K):=by
 intro value slice pins s σ H x y v u Q I rx ry h hs;obtain⟨p,xs,i,z,rfl,rfl,hq,he,q⟩:=h;cases rx;obtain⟨t,rfl⟩:=ry;obtain⟨its,r,pl,hz⟩:=I.list hq;obtain⟨j,h1,h2,h3,h4,h5⟩:=V4 he;obtain⟨w,ew,rw'⟩:=r.get h2;have hl:=r.length;have hn:=F9;have fin:EP X pins σ Q w s:=⟨z,H,I,rw',q⟩
 by_cases h0:0<=i
 ·have hj:i.toNat=j:=by
   rw[seqIndex_of h0 h5]at h1;exact Option.some.inj h1
  exact item_listR pl.isList h0 (by omega) (by rw[hj];simpa using ew) fin hs
 ·have hj:(i+(its.toArray.size:Int)).toNat=j:=by
   rw[seqIndex_neg (by omega) h4]at h1;rw[wK,<-hl];exact Option.some.inj h1
  exact subscriptTail_builtinR (x:=w) pl.isList.typeIs slot_list_getitem.lookup
   (wpAny_getItem_list_neg (Q:=λr s'=>r=w/\EP X pins σ Q r s') pl.isList (by omega) (by rw[wK]<;>omega) (by omega) (by rw[hj];simpa using ew) ⟨rfl,fin⟩) hs
theorem ix_tup:IxR X (qHk X.K):=by
 intro value slice pins s σ H x y v u Q I rx ry h hs;obtain⟨p,xs,i,z,rfl,rfl,hq,he,q⟩:=h;cases rx;obtain⟨t,rfl⟩:=ry;obtain⟨its,r,pl,hz⟩:=I.tuple hq;obtain⟨j,h1,h2,h3,h4,h5⟩:=V4 he;obtain⟨w,ew,rw'⟩:=r.get h2;have hl:=r.length;have hn:=F9;have fin:EP X pins σ Q w s:=⟨z,H,I,rw',q⟩
 exact subscriptTail_builtinR (x:=w) pl.typeIs slot_tuple_getitem.lookup
  (getItem_tuple (j:=j) (Q:=λr s'=>r=w/\EP X pins σ Q r s') pl (by omega) (by omega) (by rw[wK,<-hl];exact h1) (by simpa using ew) ⟨rfl,fin⟩) hs
theorem N9(its:List Value)(n j:Nat)(u:Value):Obj.mapSeq (·.setIfInBounds j u) { cls:=.type "list",data:=.seq its.toArray n }={ cls:=.type "list",data:=.seq (its.set j u).toArray n }:=by
 simp[Obj.mapSeq]
theorem Inv.lst{pins:List (Addr×Obj)}{σ:St}{H:Hp}{s:Shared}{p:Addr}{xs:List V}(I:Inv X pins σ H s)(h:H p=some (.lst xs)):
  ∃(its:List Value) (n:Nat),Vals xs its/\s.heap.get? p=some { cls:=.type "list",data:=.seq its.toArray n }/\xs.length<=sizeLine:=by
 obtain⟨z,its,n,r,e⟩:=I.hok p _ h;exact⟨its,n,r,e,z⟩
theorem Inv.lstUpd{pins:List (Addr×Obj)}{σ:St}{H:Hp}{s:Shared}{p:Addr}{xs ys:List V}{its its':List Value}{n n':Nat}{f:Obj->Obj}(I:Inv X pins σ H s)(h:H p=some (.lst xs))
  (ho:s.heap.get? p=some { cls:=.type "list",data:=.seq its.toArray n }) (hf:f { cls:=.type "list",data:=.seq its.toArray n }={ cls:=.type "list",data:=.seq its'.toArray n' }) (r:Vals ys its') (hz:ys.length<=sizeLine) (t:Nat):
  Inv X pins σ (upd H p (.lst ys)) { s with heap:=s.heap.update p f,toks:=t }:=by
 have e:(s.heap.update p f).get? p=some { cls:=.type "list",data:=.seq its'.toArray n' }:=by
  rw[Heap.get?_update_self f ho (by rw[hf]<;>rfl),hf]
 refine I.write (x:=p) (e:=p) (by rw[h];trivial) (.inl rfl) (λb u hb q=>(Heap.get?_update_other _ _ (Ne.symm hb)).trans q) ⟨_,e⟩ ?_;exact⟨hz,its',n',r,e⟩
def rSetL:V->V->V->Hp->(Hp->Prop)->Prop:=λo i v H Q=>∃p xs k j,o=.ref p/\i=.int k/\H p=some (.lst xs)/\ixN xs.length k=some j/\Q (upd H p (.lst (xs.set j v)))
theorem set_list:PSet X rSetL:=by
 intro pins s σ H o i v ov iv u Q I ro ri rv h;obtain⟨p,xs,k,j,rfl,rfl,hp,hj,q⟩:=h;cases ro;obtain⟨t,rfl⟩:=ri;obtain⟨its,n,r,ho,hz⟩:=I.lst hp;obtain⟨h1,h2,h3,h4⟩:=T2 hj;have hl:=r.length;have hn:=F9;have I':Inv X pins σ (upd H p (.lst (xs.set j v))) { s with heap:=s.heap.update p (Obj.mapSeq (·.setIfInBounds j u)) }:=
  I.lstUpd hp ho (N9 its n j u) (r.set rv j) (by rw[List.length_set];exact hz) s.toks
 by_cases h0:0<=k
 ·have hk:k.toNat=j:=by
   rw[seqIndex_of h0 h4]at h1;exact Option.some.inj h1
  exact PySem.W.ki_setAt ho h0 (by omega) (by rw[wK,<-hl];exact h4) (by rw[hk];exact⟨_,I',q⟩)
 ·have hk:(k+(its.toArray.size:Int)).toNat=j:=by
   rw[seqIndex_neg (by omega) h3]at h1;rw[wK,<-hl];exact Option.some.inj h1
  exact PySem.W.ki_setBack ho (by omega) (by rw[wK,<-hl];exact h3) (by omega) (by rw[hk];exact⟨_,I',q⟩)
theorem A0(lo hi:Option Int)(n:Nat):(sliceBounds lo hi none n).1=((_H.sIx n 0 lo:Nat):Int)/\(sliceBounds lo hi none n).2.1=((_H.sIx n n hi:Nat):Int)/\(sliceBounds lo hi none n).2.2=1:=by
 refine⟨?_,?_,rfl⟩
 ·cases lo with
  |none=>simp[sliceBounds,_H.sIx]
  |some i=>
   simp only[sliceBounds,_H.sIx,Option.getD_none,show (1:Int)>0 by decide,if_true];by_cases h:i<0
   ·simp only[h,if_true]<;>omega
   ·simp only[h,if_false]<;>omega
 ·cases hi with
  |none=>simp[sliceBounds,_H.sIx]
  |some i=>
   simp only[sliceBounds,_H.sIx,Option.getD_none,show (1:Int)>0 by decide,if_true];by_cases h:i<0
   ·simp only[h,if_true]<;>omega
   ·simp only[h,if_false]<;>omega
theorem Zt(its:List Value)(lo hi:Option Int):slicePick its.toArray lo hi none=((its.drop (_H.sIx its.length 0 lo)).take (_H.sIx its.length its.length hi-_H.sIx its.length 0 lo)).toArray:=by
 obtain⟨h1,h2,h3⟩:=A0 lo hi its.toArray.size;unfold slicePick;rw[h1,h2,h3];simp only[sliceRange_one,pick_run,wK]<;>rfl
def qHx(K:PySem.W.Frag):V->Option Int->Option Int->Hp->VK->Prop:=λx lo hi H Q=>∃a xs,x=.ref a/\SqL K H a xs/\∀p,H p=none->Q (.ref p) (upd H p (.lst (cutV xs lo hi)))
theorem sl_list:SlR X (qHx X.K):=by
 intro pins s σ H x v vl vu lo hi sl Q I rx hs pl pu h;obtain⟨a,xs,rfl,hx,q⟩:=h;cases rx;obtain⟨its,r,ht,hz⟩:=I.list hx;have hlen:=r.length;refine⟨"list",_,slot_list_getitem.lookup,ht.isList.typeIs,?_⟩;refine wpAny_getItem_list_slice ht.isList hs pl pu .none (by simp) ?_ (by rw[wK]<;>omega);rw[Zt,<-hlen];refine⟨.ref s.heap.objs.size,_,I.laid (t':=s.toks) (o:=.lst (cutV xs lo hi)) (λb ob q=>Heap.get?_push_of_some _ q) (wF _) ?_,rfl,q _ (I.hok.fresh (wF _))⟩;exact⟨wG (ZL xs lo hi) hz,_,0,(r.drop (_H.sIx xs.length 0 lo)).take (_H.sIx xs.length xs.length hi-_H.sIx xs.length 0 lo),Heap.get?_push_size _ rfl⟩
noncomputable def flatV:V->Bool
 | .non=>true
 | .bl _=>true
 | .int _=>true
 | .str _=>true
 |_=>false
noncomputable def eqV:V->V->Bool
 | .non,.non=>true
 | .bl a,.bl b=>a==b
 | .bl a,.int b=>(if a then 1 else 0)==b
 | .int a,.bl b=>a==(if b then 1 else 0)
 | .int a,.int b=>a==b
 | .str a,.str b=>a==b
 |_,_=>false
theorem qFH{A:Around}{s:Shared}{y x:V}{u v:Value}(ry:RelV y u)(rx:RelV x v)(fy:flatV y=true)(fx:flatV x=true):SeqAt.EqAt A s u v (eqV y x):=by
 cases y with
 |non=>
  cases ry;cases x with
  |non=>cases rx;exact SeqAt.EqAt.same _
  |bl b=>cases rx;exact SeqAt.EqAt.none_bool b
  |int b=>obtain⟨t,rfl⟩:=rx;exact SeqAt.EqAt.none_int b t
  |str b=>obtain⟨t,rfl⟩:=rx;exact SeqAt.EqAt.none_str b t
  |_=>exact absurd (show false=true from fx) wu
 |bl a=>
  cases ry;cases x with
  |non=>cases rx;exact SeqAt.EqAt.bool_none a
  |bl b=>cases rx;exact SeqAt.EqAt.bool_bool a b
  |int b=>obtain⟨t,rfl⟩:=rx;exact SeqAt.EqAt.bool_int a b t
  |str b=>obtain⟨t,rfl⟩:=rx;exact SeqAt.EqAt.bool_str a b t
  |_=>exact absurd (show false=true from fx) wu
 |int a=>
  obtain⟨t',rfl⟩:=ry;cases x with
  |non=>cases rx;exact SeqAt.EqAt.int_none a t'
  |bl b=>cases rx;exact SeqAt.EqAt.int_bool a t' b
  |int b=>obtain⟨t,rfl⟩:=rx;exact SeqAt.EqAt.int_int a t' b t
  |str b=>obtain⟨t,rfl⟩:=rx;exact SeqAt.EqAt.int_str a t' b t
  |_=>exact absurd (show false=true from fx) wu
 |str a=>
  obtain⟨t',rfl⟩:=ry;cases x with
  |non=>cases rx;exact SeqAt.EqAt.str_none a t'
  |bl b=>cases rx;exact SeqAt.EqAt.str_bool a t' b
  |int b=>obtain⟨t,rfl⟩:=rx;exact SeqAt.EqAt.str_int a t' b t
  |str b=>obtain⟨t,rfl⟩:=rx;exact SeqAt.EqAt.str_str a t' b t
  |_=>exact absurd (show false=true from fx) wu
 |_=>exact absurd (show false=true from fy) wu
noncomputable def eqU(x:V)(u:Value):Bool:=match u with
 | .none=>eqV .non x
 | .bool b=>eqV (.bl b) x
 | .int i _=>eqV (.int i) x
 | .str z _=>eqV (.str z) x
 |_=>false
theorem qA8{x y:V}{u:Value}(r:RelV y u)(f:flatV y=true):eqU x u=eqV y x:=by
 cases y with
 |non=>cases r;rfl
 |bl b=>cases r;rfl
 |int i=>obtain⟨t,rfl⟩:=r;rfl
 |str z=>obtain⟨t,rfl⟩:=r;rfl
 |_=>exact absurd (show false=true from f) wu
theorem ZR{x:V}:∀{xs:List V}{us:List Value},Vals xs us->xs.all flatV=true->us.any (eqU x)=xs.any λy=>eqV y x
 |_,_,.nil,_=>rfl
 |y::xs,u::us,.cons r t,f=>by
  rw[List.all_cons,wC]at f;rw[List.any_cons,List.any_cons,qA8 r f.1,ZR t f.2]
theorem jx{A:Around}{s:Shared}{x:V}{v:Value}(rx:RelV x v)(fx:flatV x=true):∀{xs:List V}{us:List Value},Vals xs us->xs.all flatV=true->∀u∈us,SeqAt.EqAt A s u v (eqU x u)
 |_,_,.nil,_=>λu hu=>by cases hu
 |y::xs,u::us,.cons r t,f=>λu' hu=>by
  rw[List.all_cons,wC]at f;rcases wL.mp hu with rfl|hu
  ·rw[qA8 r f.1];exact qFH r rx f.1 fx
  ·exact jx rx fx t f.2 u' hu
noncomputable def inV(x:V)(xs:List V):Bool:=xs.any λy=>eqV y x
noncomputable def rIn(K:PySem.W.Frag)(neg:Bool):R2:=λx y H Q=>∃p xs,y=.ref p/\(SqL K H p xs\/SqT K H p xs)/\flatV x=true/\xs.all flatV=true/\Q (.bl (if neg then !inV x xs else inV x xs)) H
theorem op_in_seq:OpR X (compareOp .In) (rIn X.K false):=by
 intro pins s σ H x y v u Q I rx ry h;obtain⟨p,xs,rfl,hq,fx,fs,q⟩:=h;cases ry;rcases hq with hq|hq
 ·obtain⟨its,r,pl,hz⟩:=I.list hq;refine SeqAt.in_listAt (eqU x) pl.isList (λw hw=>jx rx fx r fs w (by simpa using hw)) ⟨.bl _,H,I,rfl,?_⟩;rw[show its.toArray.any (eqU x)=its.any (eqU x) by simp,ZR r fs];exact q
 ·obtain⟨its,r,pl,hz⟩:=I.tuple hq;refine SeqAt.in_tupleAt (eqU x) pl (λw hw=>jx rx fx r fs w (by simpa using hw)) ⟨.bl _,H,I,rfl,?_⟩;rw[show its.toArray.any (eqU x)=its.any (eqU x) by simp,ZR r fs];exact q
theorem op_notIn_seq:OpR X (compareOp .NotIn) (rIn X.K true):=by
 intro pins s σ H x y v u Q I rx ry h;obtain⟨p,xs,rfl,hq,fx,fs,q⟩:=h;cases ry;rcases hq with hq|hq
 ·obtain⟨its,r,pl,hz⟩:=I.list hq;refine SeqAt.notIn_listAt (eqU x) pl.isList (λw hw=>jx rx fx r fs w (by simpa using hw)) ⟨.bl _,H,I,rfl,?_⟩;rw[show its.toArray.any (eqU x)=its.any (eqU x) by simp,ZR r fs];exact q
 ·obtain⟨its,r,pl,hz⟩:=I.tuple hq;refine SeqAt.notIn_tupleAt (eqU x) pl (λw hw=>jx rx fx r fs w (by simpa using hw)) ⟨.bl _,H,I,rfl,?_⟩;rw[show its.toArray.any (eqU x)=its.any (eqU x) by simp,ZR r fs];exact q
theorem call_len_seq:CallR X (.builtin "len") (λxs H Q=>∃p ys,xs=[.ref p]/\(SqL X.K H p ys\/SqT X.K H p ys)/\Q (.int ys.length) H):=by
 intro pins s σ H xs us Q I r h;obtain⟨p,ys,rfl,hq,q⟩:=h;obtain⟨u,rfl,rx⟩:=vals1 r;cases rx;have hn:=F9;rcases hq with hq|hq
 ·obtain⟨its,r',pl,hz⟩:=I.list hq;have hlen:=r'.length;exact Calls.call_len_list pl.isList (by simp only[wK]<;>omega) ⟨.int ys.length,H,I.tok _,⟨s.toks+1,by rw[wK,hlen]⟩,q⟩
 ·obtain⟨its,r',pl,hz⟩:=I.tuple hq;have hlen:=r'.length;exact len_tuple pl (by simp only[wK]<;>omega) ⟨.int ys.length,H,I.tok _,⟨s.toks+1,by rw[wK,hlen]⟩,q⟩
theorem call_list_of:CallR X (.type "list") (λxs H Q=>∃p ys,xs=[.ref p]/\(SqL X.K H p ys\/SqT X.K H p ys)/\∀l,H l=none->Q (.ref l) (upd H l (.lst ys))):=by
 intro pins s σ H xs us Q I r h;obtain⟨p,ys,rfl,hq,q⟩:=h;obtain⟨u,rfl,rx⟩:=vals1 r;cases rx;have fin:∀(its:List Value),Vals ys its->ys.length<=sizeLine->∀(h':Heap) (c':Nat),(∀b o',s.heap.get? b=some o'->h'.get? b=some o') ->
   h'.get? s.heap.objs.size=some { cls:=.type "list",dict:=none,data:=.seq its.toArray c',slots:=#[] }->EP X pins σ Q (.ref s.heap.objs.size) { s with heap:=h' }:=λits r' hz h' c' kp e=>
  ⟨.ref s.heap.objs.size,_,I.laid (t':=s.toks) kp (wF _) (show ObjOk X.prog X.w _ h' _ (.lst ys) from⟨hz,its,c',r',e⟩),rfl,q _ (I.hok.fresh (wF _))⟩
 rcases hq with hq|hq
 ·obtain⟨its,r',pl,hz⟩:=I.list hq;have hlen:=r'.length;obtain⟨o,ho,hc,n,hd⟩:=pl.isList;exact call_list_seq p (.inl rfl) ho hc hd (λh' c' kp e=>fin its r' hz h' c' kp e) (by simp only[wK]<;>omega)
 ·obtain⟨its,r',pl,hz⟩:=I.tuple hq;have hlen:=r'.length;obtain⟨o,ho,hc,n,hd⟩:=pl;exact call_list_seq p (.inr rfl) ho hc hd (λh' c' kp e=>fin its r' hz h' c' kp e) (by simp only[wK]<;>omega)
def tyV(K:PySem.W.Frag)(T:String)(x:V)(H:Hp):Prop:=match x with
 | .str _=>T="str"
 | .int _=>T="int"
 | .ref p=>(T="list"/\∃xs,SqL K H p xs)\/(T="tuple"/\∃o,K.lookup p=some o/\o.cls=.type "tuple"/\o.dict=none)\/
   (T="dict"/\((∃kvs,H p=some (.dK kvs))\/∃kvs,H p=some (.dT kvs)))\/(T="set"/\∃S n,H p=some (.set S n))
 |_=>False
theorem qA9{pins:List (Addr×Obj)}{σ:St}{H:Hp}{s:Shared}{T:String}{x:V}{v:Value}(I:Inv X pins σ H s)(r:RelV x v)(ty:tyV X.K T x H):
  s.TypeIs v T/\∀a,v=.ref a->∃ob,s.heap.get? a=some ob/\ob.dict=none:=by
 cases x with
 |str z=>
  obtain⟨t,rfl⟩:=r;cases (show T="str" from ty);exact⟨typeIs_str s z t,λ_ e=>nomatch e⟩
 |int i=>
  obtain⟨t,rfl⟩:=r;cases (show T="int" from ty);exact⟨typeIs_int s i t,λ_ e=>nomatch e⟩
 |ref p=>
  cases r;rcases ty with⟨rfl,xs,hq⟩|⟨rfl,o,hk,hc,hd⟩|⟨rfl,hk⟩|⟨rfl,S,n,hk⟩
  ·obtain⟨its,_,pl,_⟩:=I.list hq;refine⟨pl.isList.typeIs,λa e=>?_⟩;cases e;obtain⟨o,n,e,c,hd,_⟩:=pl;exact⟨o,e,hd⟩
  ·refine⟨⟨o,I.kIn p o hk,hc⟩,λa e=>?_⟩;cases e;exact⟨o,I.kIn _ o hk,hd⟩
  ·have z:∃o,s.heap.get? p=some o/\o.ExactDict:=by
    rcases hk with⟨kvs,hk⟩|⟨kvs,hk⟩
    ·obtain⟨_,_,_,_,o,_,_,e,ex,_⟩:=I.hok p _ hk;exact⟨o,e,ex⟩
    ·obtain⟨_,_,_,_,o,_,_,e,ex,_⟩:=I.hok p _ hk;exact⟨o,e,ex⟩
   obtain⟨o,e,ex⟩:=z;refine⟨⟨o,e,ex.1⟩,λa e2=>?_⟩;cases e2;exact⟨o,e,ex.2.1⟩
  ·obtain⟨o,_,_,_,e,ex,_⟩:=I.hok p _ hk;refine⟨⟨o,e,ex.1⟩,λa e2=>?_⟩;cases e2;exact⟨o,e,ex.2.1⟩
 |_=>exact False.elim ty
noncomputable def tBM0(K:PySem.W.Frag)(T:String)(r:V->List V->Hp->VK->Prop)(to:TE):TE:=λσ H Q=>to σ H λx H1=>tyV K T x H1/\r x [] H1 Q
noncomputable def tBM(K:PySem.W.Frag)(T:String)(r:V->List V->Hp->VK->Prop)(to:TE)(t:TA):TE:=λσ H Q=>to σ H λx H1=>tyV K T x H1/\t σ H1 λxs H2=>r x xs H2 Q
variable{o e:Expr}{es:List Expr}{to:TE}{t:TA}{name:Str}{apos cpos:Pos}{T id:String}{r:V->List V->Hp->VK->Prop}
theorem pe_bm0(pa:PlainAttrs T)(slot:Slot T name id)(hty:typeOf (.builtin id)=pure (.type "method_descriptor"))(hm:MtR X id r)(ho:PE X o to)
  (hbase:attributeBase o name X.env (eval o X.env)=eval o X.env:=by rfl) (hline:(apos.endLine==cpos.line)=true:=by rfl):PE X (.Call (.Attribute o name apos) [] [] cpos) (tBM0 X.K T r to):=by
 intro pins s σ H Q I h;refine wpAny_Call_method0_late hbase hline (thn (ho pins s σ H _ I h) λv s1 ⟨x,H1,I1,r1,ty,q1⟩=>?_);obtain⟨h1,h2⟩:=qA9 I1 r1 ty;exact⟨T,id,pa,slot,hty,h1,h2,Calls.callWith_builtin rfl (PySem.evalArgs_none (hm pins s1 σ H1 x [] v [] Q I1 r1 .nil q1))⟩
theorem pe_bm(pa:PlainAttrs T)(slot:Slot T name id)(hty:typeOf (.builtin id)=pure (.type "method_descriptor"))(hm:MtR X id r)(ho:PE X o to)(ha:PA X (e::es) t)
  (hbase:attributeBase o name X.env (eval o X.env)=eval o X.env:=by rfl)
  (hfew:((backTo cpos (starEach (e::es) X.env)).all (λx=>!x.1)&&(backToKw cpos (keywordEach [] X.env)).all (λx=>x.1.isSome)
   && decide ((e::es).length+([]:List Keyword).length+(if ([]:List Keyword).isEmpty then 0 else 1)<30))=true:=by rfl)
  (hline:(apos.endLine==cpos.line)=true:=by rfl) (hs:starEach (e::es) X.env=(false,eval e X.env)::starEach es X.env:=by rfl) (hplain:(backTo cpos (starEach es X.env)).any (·.1)=false:=by rfl):
  PE X (.Call (.Attribute o name apos) (e::es) [] cpos) (tBM X.K T r to t):=by
 intro pins s σ H Q I h;refine wpAny_Call_method_late hbase hfew hline rfl (thn (ho pins s σ H _ I h) λv s1 ⟨x,H1,I1,r1,ty,q1⟩=>?_);obtain⟨h1,h2⟩:=qA9 I1 r1 ty;refine⟨T,id,pa,slot,hty,h1,h2,?_⟩;have hA:=ha cpos pins s1 σ H1 _ I1 q1;rw[hs]at hA ⊢;refine Calls.callWith_builtin (by show (false||(backTo cpos (starEach es X.env)).any (·.1))=false;rw[hplain]<;>rfl) (Calls.evalArgs_plain ?_);exact thn hA λus s2 ⟨vs,H2,I2,r2,q2⟩=>hm pins s2 σ H2 x vs v us Q I2 r1 r2 q2
end
def MtM(X:Cx)(id:String)(r:V->List V->Hp->VK->Prop):Prop:=
 ∀(pins:List (Addr×Obj)) (s:Shared) (σ:St) (H:Hp) (x:V) (xs:List V) (v:Value) (us:List Value) (Q:VK),Inv X pins σ H s->RelV x v->Vals xs us->r x xs H Q ->
  wpAny (model X.prog X.w) X.A (call (.builtin id) (v::us)) (EP X pins σ Q) X.xe s
theorem Vals.one:∀{x:V}{us:List Value},Vals [x] us->∃u,us=[u]/\RelV x u
 |_,_,.cons r .nil=>⟨_,rfl,r⟩
theorem Vals.zero:∀{us:List Value},Vals [] us->us=[]
 |_,.nil=>rfl
theorem Vals.dropLast{xs:List V}{us:List Value}(h:Vals xs us):Vals xs.dropLast us.dropLast:=by
 induction h with
 |nil=>exact .nil
 |cons r t ih=>
  cases t with
  |nil=>exact .nil
  |cons q t'=>exact .cons r ih
theorem Vals.reverse{xs:List V}{us:List Value}(h:Vals xs us):Vals xs.reverse us.reverse:=by
 induction h with
 |nil=>exact .nil
 |cons r t ih=>rw[List.reverse_cons,List.reverse_cons];exact Vals.append ih (.cons r .nil)
theorem Vals.rep{xs:List V}{us:List Value}(h:Vals xs us):∀k:Nat,Vals (List.replicate k xs).flatten (List.replicate k us).flatten
 | 0=>.nil
 |k+1=>by
  rw[List.replicate_succ,List.replicate_succ,List.flatten_cons,List.flatten_cons];exact Vals.append h (Vals.rep h k)
theorem B1(its:List Value):∀(k:Nat) (acc:List Value),
  List.foldl (λx1 x2=>x1++x2) acc.toArray (List.replicate k its.toArray)=(acc++(List.replicate k its).flatten).toArray
 | 0,acc=>by simp
 |k+1,acc=>by
  have e:acc.toArray++its.toArray=(acc++its).toArray:=by simp
  have e2:(acc++its)++(List.replicate k its).flatten=acc++(List.replicate (k+1) its).flatten:=by
   rw[List.replicate_succ,List.flatten_cons,wV]
  rw[<-e2,<-B1 its k (acc++its),<-e,List.replicate_succ,List.foldl_cons]
section
variable{X:Cx}{pins:List (Addr×Obj)}{σ:St}{H:Hp}{s:Shared}{l b:Addr}{xs ys zs:List V}
theorem Inv.lset{its its':List Value}{n:Nat}{f:Array Value->Array Value}{t':Nat}(I:Inv X pins σ H s)(hH:H l=some (.lst xs))
  (e:s.heap.get? l=some { cls:=.type "list",data:=.seq its.toArray n }) (hf:f its.toArray=its'.toArray) (hv:Vals ys its') (hz:ys.length<=sizeLine):
  Inv X pins σ (upd H l (.lst ys)) { s with heap:=s.heap.update l (Obj.mapSeq f),toks:=t' }:=by
 have q:=PySem.IsL.update e f;rw[hf]at q;refine I.write (x:=l) (e:=l) (by rw[hH];exact trivial) (.inl rfl) (λb' u hb hu=>(Heap.get?_update_other s.heap (Obj.mapSeq f) (Ne.symm hb)).trans hu) ⟨_,q⟩ ?_;exact⟨hz,its',_,hv,q⟩
theorem Inv.lnew{its:List Value}{t':Nat}(I:Inv X pins σ H s)(hv:Vals ys its)(hz:ys.length<=sizeLine):
  Inv X pins σ (upd H s.heap.objs.size (.lst ys)) { s with heap:=s.heap.push { cls:=.type "list",data:=.seq its.toArray },toks:=t' }:=
 I.laid (λ_ _ q=>Heap.get?_push_of_some _ q) (wF _) ⟨hz,its,0,hv,Heap.get?_push_size _ rfl⟩
theorem Inv.fresh(I:Inv X pins σ H s):H s.heap.objs.size=none:=I.hok.fresh (wF _)
theorem Inv.lstM(I:Inv X pins σ H s)(hH:H l=some (.lst xs)):xs.length<=sizeLine/\∃(its:List Value) (n:Nat),Vals xs its/\xs.length=its.length/\s.heap.get? l=some { cls:=.type "list",data:=.seq its.toArray n }:=by
 obtain⟨z,its,n,r,e⟩:=I.hok l _ hH;exact⟨z,its,n,r,r.length,e⟩
theorem qAE{n:Nat}(h:n<=sizeLine):Builtin.List.listTooLong n=false:=by
 unfold Builtin.List.listTooLong;exact uF (by omega)
end
section
variable{X:Cx}
def qBf:V->List V->Hp->VK->Prop:=λx vs H Q=>∃l xs y,x=.ref l/\vs=[y]/\H l=some (.lst xs)/\xs.length<sizeLine/\Q .non (upd H l (.lst (xs++[y])))
theorem mt_append:MtM X "list.append" qBf:=by
 intro pins s σ H x vs v us Q I rx rv h;obtain⟨l,xs,y,rfl,rfl,hH,hz,q⟩:=h;cases rx;obtain⟨u,rfl,ru⟩:=rv.one;obtain⟨z,its,n,r,hl,e⟩:=I.lstM hH;refine call_meets F.slot_list_append ⟨_,e,rfl⟩ F.entry_list_append (F.args_list_append_2 _ _) (PySem.list_append l its.toArray n u (by rw[wK];omega)) ⟨e,?_⟩;refine⟨.non,_,I.lset (its':=its++[u]) hH e (by simp) (r.append (.cons ru .nil)) ?_,rfl,q⟩;rw[wT,List.length_singleton];omega
def rClear:V->List V->Hp->VK->Prop:=λx vs H Q=>∃l xs,x=.ref l/\vs=[]/\H l=some (.lst xs)/\Q .non (upd H l (.lst []))
theorem mt_clear:MtM X "list.clear" rClear:=by
 intro pins s σ H x vs v us Q I rx rv h;obtain⟨l,xs,rfl,rfl,hH,q⟩:=h;cases rx;have hus:=rv.zero;subst hus;obtain⟨z,its,n,r,hl,e⟩:=I.lstM hH;refine call_meets F.slot_list_clear ⟨_,e,rfl⟩ F.entry_list_clear (F.args_list_clear_1 _) (AutoSeq1.list_clear_list_0 l its.toArray n (by rw[wK];omega)) ⟨e,?_⟩;exact⟨.non,_,I.lset (its':=[]) (ys:=[]) hH e rfl .nil (vv _),rfl,q⟩
noncomputable def rCat:R2:=λx y H Q=>∃l b xs zs,x=.ref l/\y=.ref b/\H l=some (.lst xs)/\H b=some (.lst zs)/\xs.length+zs.length<=sizeLine/\∀p,H p=none->Q (.ref p) (upd H p (.lst (xs++zs)))
theorem op_cat:OpR X (binaryOp .Add) rCat:=by
 intro pins s σ H x y v u Q I rx ry h;obtain⟨l,b,xs,zs,rfl,rfl,hH,hB,hz,q⟩:=h;cases rx;cases ry;obtain⟨z,its,n,r,hl,e⟩:=I.lstM hH;obtain⟨z2,its2,n2,r2,hl2,e2⟩:=I.lstM hB;refine PySem.P.add_list e e2 ?_ (by rw[wK,wK];omega);have ea:its.toArray++its2.toArray=(its++its2).toArray:=by simp
 rw[ea];exact⟨.ref _,_,I.lnew (t':=s.toks) (r.append r2) (by rw[wT];omega),rfl,q _ I.fresh⟩
noncomputable def rRep:R2:=λx y H Q=>∃l k xs,x=.ref l/\y=.int k/\H l=some (.lst xs)/\-(2 ^ 63)<=k/\k<2 ^ 63/\xs.length*k.toNat<=sizeLine/\
 ∀p,H p=none->Q (.ref p) (upd H p (.lst (List.replicate k.toNat xs).flatten))
theorem qCN{α:Type}(xs:List α)(k:Nat):(List.replicate k xs).flatten.length=k*xs.length:=by
 induction k with
 |zero=>simp
 |succ k ih=>rw[List.replicate_succ,List.flatten_cons,wT,ih,Nat.succ_mul,Nat.add_comm]
theorem op_rep:OpR X (binaryOp .Mult) rRep:=by
 intro pins s σ H x y v u Q I rx ry h;obtain⟨l,k,xs,rfl,rfl,hH,h1,h2,hz,q⟩:=h;cases rx;obtain⟨t,rfl⟩:=ry;obtain⟨z,its,n,r,hl,e⟩:=I.lstM hH;have hlen:its.toArray.size*k.toNat<=sizeLine:=by rw[wK,<-hl];exact hz
 have hcap:¬ its.toArray.size*k.toNat>(2 ^ 63-1) / 8:=by
  have:(sizeLine:Nat)<=(2 ^ 63-1) / 8:=by decide
  omega
 have hfit:¬ (!Builtin.List.listFitsIndex k)=true:=by
  rw[fitsIndex_both h1 h2];exact wu
 have hlong:¬ Builtin.List.listTooLong (its.toArray.size*k.toNat)=true:=by
  rw[qAE hlen];exact wu
 have hnew:List.foldl (λx1 x2=>x1++x2) #[] (List.replicate (if its.toArray.isEmpty=true then 0 else k.toNat) its.toArray)=(List.replicate k.toNat its).flatten.toArray:=by
  have f0:∀m:Nat,List.foldl (λx1 x2=>x1++x2) #[] (List.replicate m its.toArray)=(List.replicate m its).flatten.toArray:=λm=>by
   have:=B1 its m [];rw[List.nil_append]at this;exact this
  rw[f0];cases its with
  |nil=>simp
  |cons a r'=>rw[if_neg (by simp)]
 refine wpAny_binaryOp_repeat_ref (T:="list") (U:="int") (by decide) ⟨_,e,rfl⟩ (λs'=>typeIs_int s' k t) noFill_list_mul F.fills_int_mul F.slot_int_rmul repeat_list F.slot_int_index.lookup
  (call_meets F.slot_int_rmul (typeIs_int s k t) F.entry_int_rmul (F.args_int_rmul_2 _ _) (int___rmul___int_list k t l its.toArray n)
   ⟨e,rfl,⟨_,e,rfl⟩,call_meets F.slot_list_mul ⟨_,e,rfl⟩ F.entry_list_mul (F.args_list_mul_2 _ _) (AutoListH.list___mul___list_int_3 l its.toArray n k t hfit hcap hlong) ⟨e,?_⟩⟩)
 rw[hnew];exact⟨.ref _,_,I.lnew (t':=s.toks) (r.rep k.toNat) (by rw[qCN,Nat.mul_comm];exact hz),rfl,q _ I.fresh⟩
end
end _L
namespace Att
open PySem PySem.W PySem.Calls PyProof.Rows
theorem Qq{P:Params}{h:Heap}:∀(ns:List Int) (vs:List Value),WellAll P h vs (ns.map WData.int)->IntsAre vs ns:=by
 intro ns
 induction ns with
 |nil=>
  intro vs w;rw[List.map_nil]at w;cases w;exact .nil
 |cons n ns ih=>
  intro vs w;rw[List.map_cons]at w;cases w with
  |cons a b=>
   cases a;exact .cons _ _ (ih _ b)
theorem Q7{l:OpenLaw}{n:Nat}(hn:l.most=some n){P:Params}{h:Heap}{args:List WData}{vals:List Value}
  (hpre:l.row.toRowW.claim.pre args=true) (hwl:WellAll P h vals args):
  ∃a vs ns,vals=[Value.ref a]/\args=[WData.list (ns.map WData.int)]/\h.get? a=some { cls:=.type "list",data:=.seq vs.toArray }/\IntsAre vs ns/\ns.length<=n:=by
 have hsh:WShape.hasAll [] args [.list .int]=true:=(pre_splitW hpre).1;have hc:l.pre.holds [] { args:=args }=true:=(pre_splitW hpre).2;obtain⟨d,r,rfl,h1,h2⟩:=hasAllW_cons hsh;obtain rfl:=hasAllW_nil h2;obtain⟨xs,rfl,h3⟩:=hasW_list h1;obtain⟨ns,rfl⟩:=items_int h3;have hlen:ns.length<=n:=by
  unfold OpenLaw.pre at hc;have h4:(WTm.not (.lt (.lit (.int (n:Int))) (.len (.arg 0)))).holds [] { args:=[.list (ns.map .int)] }=true:=by
   have h4:=(holds_andW hc).1;rw[hn]at h4;exact h4
  have h5:=condW_of h4 (w_not (w_lt w_lit (w_len_list (w_arg rfl))));rw[wZ]at h5;refine Nat.le_of_not_lt λq=>?_;have q':(n:Int)<((ns.length:Nat):Int):=by omega
  first
   | (rw[uG q']at h5;exact absurd h5 (by decide))
   | (simp at h5;omega)
 cases hwl with
 |cons w1 w2=>
  cases w2;cases w1 with
  |list ho hall=>exact⟨_,_,ns,rfl,rfl,ho,Qq ns _ hall,hlen⟩
theorem d7(l:OpenLaw)(args:List WData):l.row.toRowW.claim.post args (.bool true) args=true:=
 postW_of (r:=l.row.toRowW) (X:=(true==true))
  (show WShape.has [] (.bool true) .bool=true by first|rfl|decide|simp[WShape.has,WShape.arms,WShape.armsAll])
  (show (WTm.eq .res (.lit (.bool true))).value [] { args:=args,res:=some (.bool true),after:=args }=some (.bool (true==true)) from w_eq_bool (w_res rfl) w_lit) rfl
theorem attach_call{l:OpenLaw}{n:Nat}{q:Program}{loose:List Str}{XP:(Str->Option Value)->Heap->Prop}{YP:World->Heap->Prop}{d:DefRec}
  (hn:l.most=some n) (hdf:d.params.defaults=[])
  (call:∀(w:World) (s₀ s₁:Shared) (mg mb:Str->Option Value) (fa:Addr) (o:Obj) (pm cd doc:Value) (a:Addr) (vs:List Value) (ns:List Int),
   Ground q loose [] XP w s₀ mg mb s₁.heap->YP w s₁.heap ->
   s₁.heap.get? fa=some o->o.data=.func (docDef d.name d.params d.body d.scope pm cd doc)->s₁.heap.CodeRec cd d.name->mg d.name=some (.ref fa) ->
   s₁.heap.get? a=some { cls:=.type "list",data:=.seq vs.toArray }->IntsAre vs ns->ns.length<=n->s₁.gens=#[] ->
   codeAny (model l.prog w) callerA (.call (.ref fa) ⟨[.ref a],[]⟩) (λr s'=>r=.ok (.ret (.bool true))/\OldK s₁.heap s'.heap/\s'.os=s₁.os/\AllBare s'.gens) s₁):
  WalkO q loose XP YP l.row.toRowW d [] (λf vs=>PySem.call f vs):=by
 intro w s₀ s₁ mg mb G Y fa o pm cd doc dV kV ho hd hcd hD hmg hg args vals as hpre hlay hrd hwl hlo;obtain rfl:dV=.none:=Dflts.none hD hdf;obtain rfl:kV=.none:=Dflts.noKw hD;obtain⟨a,vs,ns,rfl,rfl,hobj,hints,hlen⟩:=Q7 hn hpre hwl;refine enter_call (codeAny_mono (call w s₀ s₁ mg mb fa o pm cd doc a vs ns G Y ho (fd_plain hd) hcd hmg hobj hints hlen hg) λr s' hq=>?_);obtain⟨rfl,h2,h3,h4⟩:=hq;exact⟨.inl ⟨.bool true,.bool true,[],rfl,λ_=>rfl,.bool true,d7 l _,λ_=>⟨List.Pairwise.nil,λ_ hm=>(nomatch hm)⟩⟩,h2,h3,h4⟩
end Att
namespace _L
open PySem PySem.Spec PyProof.Rows
theorem jL:∀{vs:List Value}{ns:List Int},IntsAre vs ns->Vals (ns.map V.int) vs
 |_,_,.nil=>.nil
 |_,_,.cons n t h=>.cons ⟨t,rfl⟩ (jL h)
def Only(H:Hp):Prop:=∀b,H b=none\/∃o xs,H b=some (.frz o (.lst xs))
theorem v6{P:Program}{w:World}{K:PySem.W.Frag}{mg mb:Str->Option Value}{CX:CXT}{k:Nat}{fa a:Addr}{fd:FuncData}{x:Str}{sp:Sp}{s₁:Shared}{vs:List Value}{ns:List Int}
  (KX:K.In s₁.heap) (hns:s₁.heap.Ns mainGlobals mg) (hb:s₁.heap.Ns builtinsNs mb) (hbb:∀x:Str,x≠"__name__" -> mb x=bootBuiltins x) (hlim:s₁.heap.NoLimit) (hg:s₁.gens=#[])
  (ha:s₁.heap.get? a=some { cls:=.type "list",data:=.seq vs.toArray }) (hi:IntsAre vs ns) (hl:ns.length<=sizeLine) (hr:Room k callerA)
  (F:∀base:Heap,K.In base->base.Ns mainGlobals mg->FnOk P w K mg base CX k fa fd [x] sp) (hbind:∀(s:Shared) (u:Value),BindsTo s fd ⟨[u],[]⟩ [(x,u)])
  (hsp:∀H:Hp,Only H->SqL K H a (ns.map V.int)->sp [.ref a] H (λv _=>v=.bl true) λ_ _ _=>False)
  (hCX:∀H e s',CX [] H s₁ (λ_ _ _=>False) e s'->False):
  codeAny (model P w) callerA (.call (.ref fa) ⟨[.ref a],[]⟩) (λr s'=>r=.ok (.ret (.bool true))/\OldK s₁.heap s'.heap/\s'.os=s₁.os/\AllBare s'.gens) s₁:=by
 have rv:=jL hi;have lenV:=hi.length;have core:∀H:Hp,Only H->SqL K H a (ns.map V.int)->HOk P w H s₁.heap->(∀b,H b≠none->b=a)->(H a≠none->K.lookup a=none) ->
   codeAny (model P w) callerA (.call (.ref fa) ⟨[.ref a],[]⟩) (λr s'=>r=.ok (.ret (.bool true))/\OldK s₁.heap s'.heap/\s'.os=s₁.os/\AllBare s'.gens) s₁:=by
  intro H hO hS hok hA hK;have base_of:∀{b:Addr}{o:Obj},s₁.heap.get? b=some o->H b=none->(w5 s₁.heap H).get? b=some o:=λe n=>qAH e n;have noA:∀{b:Addr}{o:Obj}{es:Array DictEntry}{ep:Nat},s₁.heap.get? b=some o->o.data=.dict es ep->H b=none:=λ{b o es ep} e d=>by
   cases q:H b with
   |none=>rfl
   |some u=>
    have e':b=a:=hA b (by rw[q];simp);subst e';rw[ha]at e;cases e;have d':Data.seq vs.toArray _=Data.dict es ep:=d;cases d'
  have nsK:∀{b:Addr}{m:Str->Option Value},s₁.heap.Ns b m->(w5 s₁.heap H).Ns b m:=λ{b m} ⟨o,es,ep,e,d,r⟩=>⟨o,es,ep,base_of e (noA e d),d,r⟩
  have hKb:K.In (w5 s₁.heap H):=λb o e=>base_of (KX b o e) (by
   cases q:H b with
   |none=>rfl
   |some u=>
    have e':b=a:=hA b (by rw[q];simp);subst e';rw[hK (by rw[q];simp)]at e;cases e)
  have hM:Mod K mg (w5 s₁.heap H):=⟨hKb,nsK hns,⟨mb,nsK hb,hbb⟩,let ⟨mc,h1,h2⟩:=hlim;⟨mc,nsK h1,h2⟩⟩
  have e0:Env0 P w K mg (w5 s₁.heap H) callerA [] s₁ H:=⟨rfl,hM,λb o e=>qB4 e,Nat.le_of_eq (i5 _ _),trivial,λb hb=>absurd (show b∈([]:List Addr) from hb) (by simp),hok,.of_eq hg⟩
  refine codeAny_mono ((F _ hKb (nsK hns)).run callerA [] s₁ H ⟨[.ref a],[]⟩ [.ref a] [.ref a] _ _ hr e0 (hbind s₁ (.ref a)) (.cons rfl .nil) (hsp H hO hS)) λr s' h=>?_;cases r with
  |error e=>exact(hCX H e s' h).elim
  |ok fl=>
   cases fl with
   |next=>exact False.elim h
   |brk=>exact False.elim h
   |cont=>exact False.elim h
   |ret u=>
    obtain⟨v,H',os,bare,un,hok',r',q⟩:=h;have q':v=.bl true:=q;subst q';obtain rfl:u=Value.bool true:=r';refine⟨rfl,OldK.of_keep λb o e=>?_,os,bare⟩;cases q:H b with
    |none=>exact un.keep b o e q (by intro z;exact absurd (show b∈([]:List Addr) from z) (by simp)) (by simp)
    |some u=>
     rcases hO b with z|⟨ob,xs,z⟩
     ·rw[q]at z;cases z
     ·have z2:=un.frzs b ob _ z;obtain⟨e1,_⟩:=hok b _ z;obtain⟨e2,_⟩:=hok' b _ z2;rw[e]at e1;cases e1;exact e2
 cases hk:K.lookup a with
 |some o=>
  have e:=KX a o hk;rw[ha]at e;cases e;refine core (λ_=>none) (λ_=>.inl rfl) (.inr ⟨_,vs.toArray,_,hk,rfl,rfl,rfl,by rw[wK,lenV];exact hl,by simpa using rv⟩) (λb u z=>by have z':(none:Option HO)=some u:=z;cases z') (λb z=>absurd rfl z) λz=>absurd rfl z
 |none=>
  refine core (λb=>if b=a then some (.frz { cls:=.type "list",data:=.seq vs.toArray } (.lst (ns.map V.int))) else none) (λb=>?_) (.inl (.inr ⟨{ cls:=.type "list",data:=.seq vs.toArray },if_pos rfl⟩)) (λb u z=>?_) (λb z=>?_) λ_=>hk
  ·by_cases hb:b=a
   ·exact .inr ⟨_,_,if_pos hb⟩
   ·exact .inl (if_neg hb)
  ·by_cases hb:b=a
   ·have z':=(if_pos hb).symm.trans z;cases z';subst hb;exact⟨ha,by rw[wZ];exact hl,vs,_,rv,ha⟩
   ·have z':=(if_neg hb).symm.trans z;cases z'
  ·by_cases hb:b=a
   ·exact hb
   ·exact absurd (if_neg hb) z
theorem walk_of{l:PySem.W.OpenLaw}{n k:Nat}{q:Program}{loose:List Str}{XP:(Str->Option Value)->Heap->Prop}{YP:World->Heap->Prop}{d:DefRec}{K:Params->PySem.W.Frag}{CX:World->CXT}{sp:World->Sp}{x:Str}
  (hn:l.most=some n) (hn2:n<=sizeLine) (hdf:d.params.defaults=[]) (hr:Room k callerA)
  (hY:∀(w:World) (h:Heap),YP w h->(K w.params).In h)
  (F:∀(w:World) (mg:Str->Option Value) (fa:Addr) (h:Heap),(K w.params).In h->h.Ns mainGlobals mg->mg d.name=some (.ref fa) ->
   ∃fd:FuncData,(∀(s:Shared) (u:Value),BindsTo s fd ⟨[u],[]⟩ [(x,u)])/\
    ∀base:Heap,(K w.params).In base->base.Ns mainGlobals mg->FnOk l.prog w (K w.params) mg base (CX w) k fa fd [x] (sp w))
  (hsp:∀(w:World) (H:Hp) (a:Addr) (ns:List Int),ns.length<=n->Only H->SqL (K w.params) H a (ns.map V.int)->sp w [.ref a] H (λv _=>v=.bl true) λ_ _ _=>False)
  (hCX:∀(w:World) (H:Hp) (s:Shared) (e:Value) (s':Shared),CX w [] H s (λ_ _ _=>False) e s'->False):
  PySem.W.WalkO q loose XP YP l.row.toRowW d [] (λf vs=>PySem.call f vs):=by
 refine Att.attach_call hn hdf λw s₀ s₁ mg mb fa o pm cd doc a vs ns G Y ho hd hcd hmg hobj hints hlen hg=>?_;have KX:=hY w _ Y;obtain⟨fd,hb,hF⟩:=F w mg fa _ KX G.T.g hmg;exact v6 KX G.T.g G.T.b G.T.builtins G.T.nolimit hg hobj hints (wG hlen hn2) hr hF hb (λH hO hS=>hsp w H a ns hlen hO hS) λH e s'=>hCX w H s₁ e s'
noncomputable def zn(s:Stmt):Arguments:=match s with
 | .FunctionDef _ a _ _ _ _ _ _ _ _=>a
 |_=>{ posonlyargs:=[],args:=[],vararg:=none,kwonlyargs:=[],kw_defaults:=[],kwarg:=none,defaults:=[] }
noncomputable def defBody(s:Stmt):List Stmt:=match s with
 | .FunctionDef _ _ b _ _ _ _ _ _ _=>b
 |_=>[]
noncomputable def defScope(s:Stmt):Scope:=match s with
 | .FunctionDef _ _ _ _ _ _ sc _ _ _=>sc
 |_=>{ kind:=.function,names:=[],isGenerator:=false,isCoroutine:=false }
noncomputable abbrev CX0:CXT:=λ_ _ _ _ _ _=>False
noncomputable abbrev E0:XK:=λ_ _ _=>False
theorem pass0{X:Cx}:K2 CX0 X E0:=λ_ _ _ _ _ _ _ h=>h.elim
structure Fun(K:PySem.W.Frag)(x qual:Str)(st:Stmt)(f:Addr)(fd:FuncData):Prop where
 ex:∃(oc:Value) (od:Option Addr) (kV doc pm:Value) (an:Option Addr) (cdv ct:Value) (osl:Array (Option Value)),
  fd=PySem.W.fnOf x qual (zn st) (defBody st) (defScope st) .none kV doc pm an cdv ct/\K.lookup f=some ⟨oc,od,.func fd,osl⟩/\PySem.W.codeIn K cdv qual=true
 kp:PySem.W.keepIn K (.ref f)=true
section
variable{P:Program}{w:World}{K:PySem.W.Frag}{mg:Str->Option Value}{base:Heap}
theorem Fun.ok{x qual:Str}{st:Stmt}{f:Addr}{fd:FuncData}{N ps:List Str}{k:Nat}{sp:Sp}(F:Fun K x qual st f fd)(S:zS N ps (defScope st))(len:∀vs H Q E,sp vs H Q E->vs.length=ps.length)
  (hbody:∀(cdv:Value) (A:Around) (outer:List Env) (s:Shared) (H:Hp) (vs:List V) (Q:VK) (E:XK),Room k (A.deeper (envOfC qual (defScope st) s.heap.objs.size f cdv))->sp vs H Q E ->
   ∃t,PSs (cxOf CX0 P w K mg base N qual (defScope st) f cdv A outer s H E).nox (defBody st) t/\t { nx:=λ_ H'=>Q .non H',rt:=Q } (start N vs) H):FnOk P w K mg base CX0 (k+1) f fd ps sp:=by
 obtain⟨oc,od,kV,doc,pm,an,cdv,ct,osl,rfl,lk,hcd⟩:=F.ex;refine fn_of lk hcd S len λA outer s H vs Q E hr hsp=>?_;obtain⟨t,h,q⟩:=hbody cdv A outer s H vs Q E hr hsp;exact⟨t,h.nox,q⟩
theorem Fun.binds{x qual:Str}{st:Stmt}{f:Addr}{fd:FuncData}{ps:List Str}(F:Fun K x qual st f fd)
  (h:∀(kV doc pm:Value) (an:Option Addr) (cdv ct:Value) (us:List Value),us.length=ps.length->bindArgs (PySem.W.fnOf x qual (zn st) (defBody st) (defScope st) .none kV doc pm an cdv ct) ⟨us,[]⟩=pure (ps.zip us)):Binds K fd ps []:=by
 obtain⟨oc,od,kV,doc,pm,an,cdv,ct,osl,rfl,lk,hcd⟩:=F.ex;exact .all (h kV doc pm an cdv ct)
theorem qAn{x qual:Str}{st:Stmt}{f:Addr}{oc:Value}{od an:Option Addr}{osl:Array (Option Value)}{kV doc pm cdv ct:Value}(l:K.lookup f=some ⟨oc,od,.func (PySem.W.fnOf x qual (zn st) (defBody st) (defScope st) .none kV doc pm an cdv ct),osl⟩)
  (c:PySem.W.codeIn K cdv qual=true) (k:PySem.W.keepIn K (.ref f)=true):Fun K x qual st f (PySem.W.fnOf x qual (zn st) (defBody st) (defScope st) .none kV doc pm an cdv ct):=⟨⟨oc,od,kV,doc,pm,an,cdv,ct,osl,rfl,l,c⟩,k⟩
end
def ZT(H H':Hp):Prop:=∀b o,H b=some o->H' b=some o
section
variable{κ:Type}[DecidableEq κ]
noncomputable def valV(kvs:List (κ×V))(k:κ):Option V:=(kvs.find? λkv=>decide (kv.1=k)).map (·.2)
noncomputable def putK(kvs:List (κ×V))(k:κ)(v:V):List (κ×V):=
 if (kvs.any λkv=>decide (kv.1=k))=true then kvs.map (λkv=>if kv.1=k then (kv.1,v) else kv) else kvs++[(k,v)]
noncomputable def qDn(kvs:List (κ×V))(k:κ):List (κ×V):=kvs.filter λkv=>decide (kv.1≠k)
theorem Zx{p:κ×V}{r:List (κ×V)}{k:κ}(e:p.1=k):valV (p::r) k=some p.2:=by simp[valV,List.find?_cons,e]
theorem Zv{p:κ×V}{r:List (κ×V)}{k:κ}(e:¬ p.1=k):valV (p::r) k=valV r k:=by simp[valV,List.find?_cons,e]
theorem valV_any(k:κ):∀kvs:List (κ×V),(kvs.any λkv=>decide (kv.1=k))=(valV kvs k).isSome
 | []=>rfl
 |p::r=>by
  rw[List.any_cons];by_cases e:p.1=k
  ·simp only[Zx e,uG e,Bool.true_or,Option.isSome_some]
  ·rw[Zv e,uF e,Bool.false_or];exact valV_any k r
theorem Qr(kvs:List (κ×V))(k:κ)(v:V):(putK kvs k v).length<=kvs.length+1:=by
 unfold putK;split
 ·rw[wZ];omega
 ·rw[wT,List.length_cons,vz];omega
theorem RelO.isSome_eq{o:Option V}{u:Option Value}(r:RelO o u):o.isSome=u.isSome:=by
 cases o with
 |none=>cases u with
  |none=>rfl
  |some _=>exact(show False from r).elim
 |some _=>cases u with
  |none=>exact(show False from r).elim
  |some _=>rfl
theorem RelO.getD{o:Option V}{u:Option Value}{d:V}{d':Value}(r:RelO o u)(rd:RelV d d'):RelV (o.getD d) (u.getD d'):=by
 cases o with
 |none=>cases u with
  |none=>exact rd
  |some _=>exact(show False from r).elim
 |some _=>cases u with
  |none=>exact(show False from r).elim
  |some _=>exact r
theorem KV.val{kvs:List (κ×V)}{vs:List (κ×Value)}(r:KV kvs vs)(k:κ):RelO (valV kvs k) (valueAt vs k):=by
 unfold KV at r
 induction r with
 |nil=>exact True.intro
 | @cons p q ps qs h t ih=>
  obtain⟨h1,h2⟩:=h;by_cases e:p.1=k
  ·have e':q.1=k:=h1.symm.trans e;have b:valueAt (q::qs) k=some q.2:=by simp[valueAt,List.find?_cons,e']
   rw[Zx e,b];exact h2
  ·have e':¬ q.1=k:=λz=>e (h1.trans z);have b:valueAt (q::qs) k=valueAt qs k:=by simp[valueAt,List.find?_cons,e']
   rw[Zv e,b];exact ih
theorem KV.any{kvs:List (κ×V)}{vs:List (κ×Value)}(r:KV kvs vs)(k:κ):(kvs.any λkv=>decide (kv.1=k))=vs.any λkv=>decide (kv.1=k):=by
 unfold KV at r
 induction r with
 |nil=>rfl
 |cons h t ih=>rw[List.any_cons,List.any_cons,ih,h.1]
theorem KV.repl{kvs:List (κ×V)}{vs:List (κ×Value)}(r:KV kvs vs)(k:κ){y:V}{u:Value}(ry:RelV y u):
  KV (kvs.map λkv=>if kv.1=k then (kv.1,y) else kv) (vs.map λkv=>if kv.1=k then (kv.1,u) else kv):=by
 unfold KV at r ⊢
 induction r with
 |nil=>exact .nil
 | @cons p q ps qs h t ih=>
  rw[List.map_cons,List.map_cons];refine .cons ?_ ih;obtain⟨h1,h2⟩:=h;by_cases e:p.1=k
  ·rw[if_pos e,if_pos (h1.symm.trans e)];exact⟨h1,ry⟩
  ·rw[if_neg e,if_neg (λz=>e (h1.trans z))];exact⟨h1,h2⟩
theorem KV.put{kvs:List (κ×V)}{vs:List (κ×Value)}(r:KV kvs vs)(k:κ){y:V}{u:Value}(ry:RelV y u):KV (putK kvs k y) (stored vs k u):=by
 unfold putK stored;rw[r.any k];by_cases e:(vs.any λkv=>decide (kv.1=k))=true
 ·rw[if_pos e,if_pos e];exact r.repl k ry
 ·rw[if_neg e,if_neg e];exact Paired.snoc r ⟨rfl,ry⟩
theorem KV.drop{kvs:List (κ×V)}{vs:List (κ×Value)}(r:KV kvs vs)(k:κ):KV (qDn kvs k) (without vs k):=by
 unfold KV at r ⊢;unfold qDn without
 induction r with
 |nil=>exact .nil
 | @cons p q ps qs h t ih=>
  obtain⟨h1,h2⟩:=h;rw[List.filter_cons,List.filter_cons];by_cases e:p.1=k
  ·have a:¬ decide (p.1≠k)=true:=by simp[e]
   have b:¬ decide (q.1≠k)=true:=by simp[h1.symm.trans e]
   rw[if_neg a,if_neg b];exact ih
  ·have e':¬ q.1=k:=λz=>e (h1.trans z);have a:decide (p.1≠k)=true:=by simp[e]
   have b:decide (q.1≠k)=true:=by simp[e']
   rw[if_pos a,if_pos b];exact .cons ⟨h1,h2⟩ ih
theorem KV.length{kvs:List (κ×V)}{vs:List (κ×Value)}(r:KV kvs vs):kvs.length=vs.length:=Paired.length r
end
theorem u3{P:Program}{w:World}{k:Key}{u:Value}(r:RelV (kV k) u):(zN P w).is k u=true:=by
 cases k with
 |inl i=>obtain⟨t,e⟩:=(show ∃t,u=Value.int i t from r);subst e;exact D8 P w i t
 |inr x=>obtain⟨t,e⟩:=(show ∃t,u=Value.str x t from r);subst e;exact C6 P w x t
theorem Jh{P:Program}{w:World}:∀{ks:List Key}{us:List Value},Vals (ks.map kV) us->ItemsAre (zN P w) ks us
 | [],_,r=>by rw[List.map_nil]at r;cases r;exact .nil
 |k::ks,_,r=>by
  rw[List.map_cons]at r;cases r with
  |cons h t=>exact .cons (u3 h) (Jh t)
abbrev KT(H:Hp):List (List Key×V)->List (List Key×Addr×Value)->Prop:=Paired λp q=>p.1=q.1/\H q.2.1=some (.tup (p.1.map kV))/\RelV p.2 q.2.2
theorem KT.val{H:Hp}{kvs:List (List Key×V)}{xs:List (List Key×Addr×Value)}(r:KT H kvs xs)(k:List Key):RelO (valV kvs k) ((atKey xs k).map (·.2)):=by
 induction r with
 |nil=>exact True.intro
 | @cons p q ps qs h t ih=>
  obtain⟨h1,_,h2⟩:=h;by_cases e:p.1=k
  ·have e':q.1=k:=h1.symm.trans e;have b:atKey (q::qs) k=some q.2:=by simp[atKey,List.find?_cons,e']
   rw[Zx e,b];exact h2
  ·have e':¬ q.1=k:=λz=>e (h1.trans z);have b:atKey (q::qs) k=atKey qs k:=by simp[atKey,List.find?_cons,e']
   rw[Zv e,b];exact ih
theorem KT.repl{H:Hp}{kvs:List (List Key×V)}{xs:List (List Key×Addr×Value)}(r:KT H kvs xs)(k:List Key){y:V}{u:Value}(ry:RelV y u):
  KT H (kvs.map λkv=>if kv.1=k then (kv.1,y) else kv) (xs.map (putAt k u)):=by
 induction r with
 |nil=>exact .nil
 | @cons p q ps qs h t ih=>
  rw[List.map_cons,List.map_cons];refine .cons ?_ ih;obtain⟨h1,h2,h3⟩:=h;unfold putAt;by_cases e:p.1=k
  ·rw[if_pos e,if_pos (h1.symm.trans e)];exact⟨h1,h2,ry⟩
  ·rw[if_neg e,if_neg (λz=>e (h1.trans z))];exact⟨h1,h2,h3⟩
theorem KT.put{H:Hp}{kvs:List (List Key×V)}{xs:List (List Key×Addr×Value)}(r:KT H kvs xs)(k:List Key){b:Addr}{y:V}{u:Value}(hb:H b=some (.tup (k.map kV)))(ry:RelV y u):
  KT H (putK kvs k y) (storedH xs k b u):=by
 have e:(kvs.any λkv=>decide (kv.1=k))=(atKey xs k).isSome:=by
  rw[valV_any,(r.val k).isSome_eq,Option.isSome_map]
 unfold putK storedH;rw[e];by_cases q:(atKey xs k).isSome=true
 ·rw[if_pos q,if_pos q];exact r.repl k ry
 ·rw[if_neg q,if_neg q];exact Paired.snoc r ⟨rfl,hb,ry⟩
theorem KT.keeps{H H':Hp}{kvs:List (List Key×V)}{xs:List (List Key×Addr×Value)}(r:KT H kvs xs)(ht:∀b ys,H b=some (.tup ys)->H' b=some (.tup ys)):KT H' kvs xs:=
 Paired.mapP r λ_ _ z=>⟨z.1,ht _ _ z.2.1,z.2.2⟩
section
variable{P:Program}{w:World}{H:Hp}{h:Heap}{a:Addr}
theorem qDJ{u:HO}(ok:HOk P w H h)(e:Rd H a u):ObjOk P w H h a u:=e.ok ok
theorem qCC{kvs:List (Key×V)}(ok:HOk P w H h)(e:Rd H a (.dK kvs)):kvs.length<=sizeLine/\(a==sysModules)=false/\∃vs,KV kvs vs/\h.DictOf (zN P w) a vs:=
 show ObjOk P w H h a (.dK kvs) from qDJ ok e
theorem qGI{kvs:List (Key×V)}(ok:HOk P w H h)(e:H a=some (.dK kvs)):kvs.length<=sizeLine/\(a==sysModules)=false/\∃vs,KV kvs vs/\h.DictOf (zN P w) a vs:=qCC ok (.inl e)
theorem G9{ks:List Key}(ok:HOk P w H h)(e:H a=some (.tup (ks.map kV))):(tupleKind (zN P w)).is h ks a:=by
 obtain⟨_,its,r,o,h1,h2,n,h3⟩:=(show ObjOk P w H h a (.tup (ks.map kV)) from ok a _ e)
 exact⟨o,its.toArray,n,h1,h2,h3,by simpa using Jh r⟩
theorem qCL{kvs:List (List Key×V)}(ok:HOk P w H h)(e:Rd H a (.dT kvs)):kvs.length<=sizeLine/\(a==sysModules)=false/\
  ∃xs,KT H kvs xs/\h.DictOfH (tupleKind (zN P w)) a xs:=by
 obtain⟨z,y,xs,r,o,es,ep,h1,h2,h3,h4,h5⟩:=(show ObjOk P w H h a (.dT kvs) from qDJ ok e)
 refine⟨z,y,xs,r,o,es,ep,h1,h2,h3,h4,λx hx=>?_,h5⟩;have all:∀{l:List (List Key×V)}{m:List (List Key×Addr×Value)},KT H l m->∀x∈m,(tupleKind (zN P w)).is h x.1 x.2.1:=by
  intro l m q
  induction q with
  |nil=>intro x hx;exact nomatch hx
  | @cons p q ps qs hq t ih=>
   intro x hx;rcases wL.mp hx with e|hx
   ·subst e;exact G9 ok (by rw[<-hq.1];exact hq.2.1)
   ·exact ih x hx
 exact all r x hx
theorem qFc{kvs:List (List Key×V)}(ok:HOk P w H h)(e:H a=some (.dT kvs)):kvs.length<=sizeLine/\(a==sysModules)=false/\
  ∃xs,KT H kvs xs/\h.DictOfH (tupleKind (zN P w)) a xs:=qCL ok (.inl e)
end
def DGet(H:Hp)(a:Addr)(y:V)(r:Option V):Prop:=
 (∃kvs k,Rd H a (.dK kvs)/\y=kV k/\r=valV kvs k)\/∃kvs k b,Rd H a (.dT kvs)/\y=.ref b/\H b=some (.tup (k.map kV))/\r=valV kvs k
def DPut(H:Hp)(a:Addr)(y v:V)(H':Hp):Prop:=
 (∃kvs k,H a=some (.dK kvs)/\y=kV k/\kvs.length<sizeLine/\H'=upd H a (.dK (putK kvs k v)))\/
 ∃kvs k b,H a=some (.dT kvs)/\y=.ref b/\H b=some (.tup (k.map kV))/\kvs.length<sizeLine/\H'=upd H a (.dT (putK kvs k v))
theorem DGet.k{H:Hp}{a:Addr}{kvs:List (Key×V)}{k:Key}(e:H a=some (.dK kvs)):DGet H a (kV k) (valV kvs k):=.inl ⟨kvs,k,.inl e,rfl,rfl⟩
theorem DGet.t{H:Hp}{a b:Addr}{kvs:List (List Key×V)}{k:List Key}(e:H a=some (.dT kvs))(eb:H b=some (.tup (k.map kV))):DGet H a (.ref b) (valV kvs k):=.inr ⟨kvs,k,b,.inl e,rfl,eb,rfl⟩
theorem DPut.k{H:Hp}{a:Addr}{kvs:List (Key×V)}{k:Key}{v:V}(e:H a=some (.dK kvs))(hl:kvs.length<sizeLine):DPut H a (kV k) v (upd H a (.dK (putK kvs k v))):=.inl ⟨kvs,k,e,rfl,hl,rfl⟩
theorem DPut.t{H:Hp}{a b:Addr}{kvs:List (List Key×V)}{k:List Key}{v:V}(e:H a=some (.dT kvs))(eb:H b=some (.tup (k.map kV)))(hl:kvs.length<sizeLine):
  DPut H a (.ref b) v (upd H a (.dT (putK kvs k v))):=.inr ⟨kvs,k,b,e,rfl,eb,hl,rfl⟩
section
variable{X:Cx}{pins:List (Addr×Obj)}{σ:St}{H:Hp}{s:Shared}{a:Addr}{y v:V}{u r:Value}{o:Option V}{A:Around}{E:Value->Shared->Prop}
theorem d_in{Q:Value->Shared->Prop}(hu:A.units+1<cLine)(I:Inv X pins σ H s)(g:DGet H a y o)(ry:RelV y u)(h:∀s',Inv X pins σ H s'->Q (.bool o.isSome) s'):
  wpAny (model X.prog X.w) A (compareOp .In u (.ref a)) Q E s:=by
 rcases g with⟨kvs,k,e,ey,l⟩|⟨kvs,k,b,e,ey,eb,l⟩
 ·subst ey;obtain⟨z,hd,vs,rel,dd⟩:=qCC I.hok e;refine wpAny_in_of (u3 ry) hd dd.mapOf ?_;rw[<-(rel.val k).isSome_eq,<-l];exact h _ (I.tok _)
 ·subst ey;cases (show u=Value.ref b from ry);obtain⟨z,hd,xs,rel,dd⟩:=qCL I.hok e;refine wpAny_in_heap (tupleKind_room_in1 hu) (G9 I.hok eb) hd dd ?_;have q:=(rel.val k).isSome_eq;rw[Option.isSome_map]at q;rw[<-q,<-l];exact h _ (I.tok _)
theorem d_notIn{Q:Value->Shared->Prop}(hu:A.units+1<cLine)(I:Inv X pins σ H s)(g:DGet H a y o)(ry:RelV y u)(h:∀s',Inv X pins σ H s'->Q (.bool (!o.isSome)) s'):
  wpAny (model X.prog X.w) A (compareOp .NotIn u (.ref a)) Q E s:=by
 rcases g with⟨kvs,k,e,ey,l⟩|⟨kvs,k,b,e,ey,eb,l⟩
 ·subst ey;obtain⟨z,hd,vs,rel,dd⟩:=qCC I.hok e;refine wpAny_notIn_of (u3 ry) hd dd.mapOf ?_;rw[<-(rel.val k).isSome_eq,<-l];exact h _ (I.tok _)
 ·subst ey;cases (show u=Value.ref b from ry);obtain⟨z,hd,xs,rel,dd⟩:=qCL I.hok e;refine wpAny_notIn_heap (tupleKind_room_in1 hu) (G9 I.hok eb) hd dd ?_;have q:=(rel.val k).isSome_eq;rw[Option.isSome_map]at q;rw[<-q,<-l];exact h _ (I.tok _)
theorem Z4{h':Heap}{t':Nat}{ob:HO}(I:Inv X pins σ H s)(mu:Mut (H a))(hs:Heap.SameBut a s.heap h')(he:∃q,h'.get? a=some q)(new:ObjOk X.prog X.w (upd H a ob) h' a ob):
  Inv X pins σ (upd H a ob) { s with heap:=h',toks:=t' }:=
 I.write (x:=a) (e:=a) mu (.inl rfl) (λb q hb z=>(hs.2 b hb).trans z) he new
theorem qDT{P:Program}{w:World}{H':Hp}{h':Heap}{kvs:List (Key×V)}{vs:List (Key×Value)}(z:kvs.length<=sizeLine)(hd:(a==sysModules)=false)(rel:KV kvs vs)(dd:h'.DictOf (zN P w) a vs):
  ObjOk P w H' h' a (.dK kvs):=⟨z,hd,vs,rel,dd⟩
theorem d_setItem{H':Hp}{Q:Unit->Shared->Prop}(hu:A.units+1<cLine)(I:Inv X pins σ H s)(g:DPut H a y v H')(ry:RelV y u)(rv:RelV v r)(h:∀s',Inv X pins σ H' s'->Q () s'):
  wpAny (model X.prog X.w) A (setItem (.ref a) u r) Q E s:=by
 rcases g with⟨kvs,k,e,ey,l,eH⟩|⟨kvs,k,b,e,ey,eb,l,eH⟩
 ·subst ey eH;obtain⟨z,hd,vs,rel,dd⟩:=qGI I.hok e;have hz:vs.length<=sizeLine:=by rw[<-rel.length];exact z
  have hl:(putK kvs k v).length<=sizeLine:=by have:=Qr kvs k v;omega
  refine wpAny_setItem_pairs (hsz:=hz) (u3 ry) dd λh' dd' hs=>h _ ?_;have he:∃q,h'.get? a=some q:=let ⟨q,_,_,hq,_⟩:=dd';⟨q,hq⟩
  exact Z4 I (by rw[e];exact True.intro) hs he (qDT hl hd (rel.put k rv) dd')
 ·subst ey eH;cases (show u=Value.ref b from ry);obtain⟨z,hd,xs,rel,dd⟩:=qFc I.hok e;have hz:xs.length<=sizeLine:=by rw[<-Paired.length rel];exact z
  have hl:(putK kvs k v).length<=sizeLine:=by have:=Qr kvs k v;omega
  refine wpAny_setItem_heap (hsz:=hz) (tupleKind_room_in1 hu) (G9 I.hok eb) dd λh' dd' hs=>h _ ?_;obtain⟨q,es,ep,hq,h2,h3,h4,_,h5⟩:=dd';refine Z4 I (by rw[e];exact True.intro) hs ⟨q,hq⟩ ⟨hl,hd,_,(rel.put k eb rv).keeps λc ys ec=>?_,q,es,ep,hq,h2,h3,h4,h5⟩;rw[upd_ne (qF6 ec e (λz=>nomatch z))];exact ec
end
noncomputable def qDf(kvs more:List (Key×V)):List (Key×V):=more.foldl (λacc kv=>putK acc kv.1 kv.2) kvs
structure M1(X:Cx)(o:Expr)(m:Str)(apos:Pos)(e:Expr)(cpos:Pos):Prop where
 base:attributeBase o m X.env (eval o X.env)=eval o X.env
 few:((backTo cpos (starEach [e] X.env)).all (λx=>!x.1)&&(backToKw cpos (keywordEach [] X.env)).all (λx=>x.1.isSome)
  && decide (([e]:List Expr).length+([]:List Keyword).length+(if ([]:List Keyword).isEmpty then 0 else 1)<30))=true
 line:(apos.endLine==cpos.line)=true
 trees:backTo cpos (starEach [e] X.env)=[(false,eval e X.env)]
structure M2(X:Cx)(o:Expr)(m:Str)(apos:Pos)(e f:Expr)(cpos:Pos):Prop where
 base:attributeBase o m X.env (eval o X.env)=eval o X.env
 few:((backTo cpos (starEach [e,f] X.env)).all (λx=>!x.1)&&(backToKw cpos (keywordEach [] X.env)).all (λx=>x.1.isSome)
  && decide (([e,f]:List Expr).length+([]:List Keyword).length+(if ([]:List Keyword).isEmpty then 0 else 1)<30))=true
 line:(apos.endLine==cpos.line)=true
 trees:backTo cpos (starEach [e,f] X.env)=[(false,eval e X.env),(false,eval f X.env)]
end _L
set_option maxHeartbeats 4000000
namespace _L
open PySem PySem.Spec PyProof.Rows
theorem KV.len{kvs:List (Key×V)}{vs:List (Key×Value)}(r:KV kvs vs):vs.length=kvs.length:=(Paired.length r).symm
theorem KV.key{kvs:List (Key×V)}{vs:List (Key×Value)}(r:KV kvs vs){i:Nat}{k:Key×V}(e:kvs[i]?=some k):∃v,vs[i]?=some (k.1,v):=by
 induction r generalizing i with
 |nil=>simp at e
 |cons h t ih=>
  cases i with
  |zero=>cases e;exact⟨_,by rw[List.getElem?_cons_zero];congr 1;exact Prod.ext h.1.symm rfl⟩
  |succ i=>exact ih (by simpa using e)
noncomputable def Q6(cells:List (Str×Addr)):List (Str×NameKind)->List (Str×Addr)->List (Str×Addr)
 | [],cs=>cs
 | (n,k)::r,cs=>Q6 cells r (if k=.free then (match cells.lookup n with|some c=>(n,c)::cs|none=>cs) else cs)
theorem zz{scope:Scope}{env:Env}(h:∀y∈scope.names,y.2=.free->∃c,env.cells.lookup y.1=some c):closureFor scope env=pure (Q6 env.cells scope.names []):=by
 simp only[closureFor];generalize scope.names=names at h;have key:∀(names:List (Str×NameKind)) (cs:List (Str×Addr)),(∀y∈names,y.2=.free->∃c,env.cells.lookup y.1=some c) ->
   (forIn names cs λx r=>if (x.2==NameKind.free)=true then do let c <- cellOf env x.1;pure (ForInStep.yield ((x.1,c)::r)) else pure (ForInStep.yield r))=(pure (Q6 env.cells names cs):Sem _):=by
  intro names
  induction names with
  |nil=>intro cs _;rfl
  |cons y r ih=>
   intro cs hy;obtain⟨n,k⟩:=y;rw[List.forIn_cons];by_cases hk:k=.free
   ·subst hk;obtain⟨c,hc⟩:=hy (n,.free) wM rfl;have hc':List.lookup n env.cells=some c:=hc;have e:cellOf env n=pure c:=by unfold cellOf;rw[hc']
    simp only[uK,if_true,e,pure_bind,Q6,hc'];exact ih _ λy hm=>hy y (wI _ hm)
   ·have hb:(k==NameKind.free)=false:=by simpa using hk
    simp only[hb,vR,if_false,pure_bind,Q6,if_neg hk];exact ih _ λy hm=>hy y (wI _ hm)
 rw[key names [] h];rfl
theorem qAo{cells:List (Str×Addr)}{x:Str}{c:Addr}:∀{names:List (Str×NameKind)}{cs:List (Str×Addr)},(Q6 cells names cs).lookup x=some c->cs.lookup x=some c\/cells.lookup x=some c
 | [],cs,h=>.inl h
 | (n,k)::r,cs,h=>by
  unfold Q6 at h;rcases qAo h with h2|h2
  ·clear h;by_cases hk:k=.free
   ·rw[if_pos hk]at h2;cases e:cells.lookup n with
    |none=>rw[e]at h2;exact .inl h2
    |some c'=>
     rw[e]at h2;simp only[List.lookup_cons]at h2;cases hx:x==n with
     |true=>
      have hx':x=n:=by simpa using hx
      rw[hx]at h2;subst hx';cases h2;exact .inr e
     |false=>
      rw[hx]at h2;exact .inl h2
   ·rw[if_neg hk]at h2;exact .inl h2
  ·exact .inr h2
theorem qAj{cells:List (Str×Addr)}{x:Str}{c:Addr}(hc:cells.lookup x=some c):∀{names:List (Str×NameKind)}{cs:List (Str×Addr)},((x,NameKind.free)∈names\/cs.lookup x=some c)->(∀c',cs.lookup x=some c'->c'=c)->(Q6 cells names cs).lookup x=some c
 | [],cs,h,_=>by
  rcases h with h|h
  ·exact nomatch h
  ·exact h
 | (n,k)::r,cs,h,hu=>by
  unfold Q6;refine qAj hc ?_ ?_
  ·rcases h with h|h
   ·rcases wL.mp h with h|h
    ·cases h;right;rw[if_pos rfl,hc];simp
    ·exact .inl h
   ·right;by_cases hk:k=.free
    ·rw[if_pos hk];cases e:cells.lookup n with
     |none=>exact h
     |some c'=>
      simp only[List.lookup_cons];cases hx:x==n with
      |true=>
       have hx':x=n:=by simpa using hx
       subst hx';rw[hc]at e;cases e;rfl
      |false=>exact h
    ·rw[if_neg hk];exact h
  ·intro c' h';by_cases hk:k=.free
   ·rw[if_pos hk]at h';cases e:cells.lookup n with
    |none=>rw[e]at h';exact hu c' h'
    |some c2=>
     rw[e]at h';simp only[List.lookup_cons]at h';cases hx:x==n with
     |true=>
      have hx':x=n:=by simpa using hx
      subst hx';rw[hx]at h';rw[hc]at e;cases e;cases h';rfl
     |false=>
      rw[hx]at h';exact hu c' h'
   ·rw[if_neg hk]at h';exact hu c' h'
theorem QU{env:Env}:∀{names:List (Str×NameKind)}{x:Str},names.lookup x=some .free ->
  (names.map λ(n,k)=>if (k==NameKind.free&&env.scope.kind==.function&&env.kindOf n==some .cell) then (n,NameKind.cell) else (n,k)).lookup x=some .cell\/
  (names.map λ(n,k)=>if (k==NameKind.free&&env.scope.kind==.function&&env.kindOf n==some .cell) then (n,NameKind.cell) else (n,k)).lookup x=some .free
 | [],_,h=>by simp at h
 | (n,k)::r,x,h=>by
  have ih:=@QU env r x;simp only[List.map_cons];cases hx:x==n with
  |true=>
   simp only[List.lookup_cons,hx]at h;cases h;by_cases hc:(NameKind.free==NameKind.free&&env.scope.kind==.function&&env.kindOf n==some .cell)=true
   ·rw[if_pos hc];left;simp[List.lookup_cons,hx]
   ·rw[if_neg hc];right;simp[List.lookup_cons,hx]
  |false=>
   simp only[List.lookup_cons,hx]at h;by_cases hc:(k==NameKind.free&&env.scope.kind==.function&&env.kindOf n==some .cell)=true
   ·rw[if_pos hc];simp only[List.lookup_cons,hx];exact ih h
   ·rw[if_neg hc];simp only[List.lookup_cons,hx];exact ih h
theorem jK{env:Env}:∀{names:List (Str×NameKind)}{x:Str},
  ((names.map λ(n,k)=>if (k==NameKind.free&&env.scope.kind==.function&&env.kindOf n==some .cell) then (n,NameKind.cell) else (n,k)).lookup x=some .cell\/
  (names.map λ(n,k)=>if (k==NameKind.free&&env.scope.kind==.function&&env.kindOf n==some .cell) then (n,NameKind.cell) else (n,k)).lookup x=some .free)->names.lookup x=some .free\/names.lookup x=some .cell
 | [],_,h=>by simp at h
 | (n,k)::r,x,h=>by
  have ih:=@jK env r x;simp only[List.map_cons]at h;cases hx:x==n with
  |true=>
   simp only[List.lookup_cons,hx];by_cases hc:(k==NameKind.free&&env.scope.kind==.function&&env.kindOf n==some .cell)=true
   ·rw[if_pos hc]at h;have hk:k=.free:=by
     cases k<;>first|rfl|(simp at hc)
    rw[hk];exact .inl rfl
   ·rw[if_neg hc]at h;simp only[List.lookup_cons,hx]at h;exact h.symm
  |false=>
   simp only[List.lookup_cons,hx];by_cases hc:(k==NameKind.free&&env.scope.kind==.function&&env.kindOf n==some .cell)=true
   ·rw[if_pos hc]at h;simp only[List.lookup_cons,hx]at h;exact ih h
   ·rw[if_neg hc]at h;simp only[List.lookup_cons,hx]at h;exact ih h
theorem je:∀(names:List (Str×NameKind)) (a:Nat) (acc:List (Str×Addr)),cellsFrom a names acc=cellsFrom a names []++acc
 | [],a,acc=>rfl
 | (n,k)::r,a,acc=>by
  unfold cellsFrom;split
  ·rw[je r (a+1) ((n,a)::acc),je r (a+1) [(n,a)],wV];rfl
  ·exact je r a acc
theorem JL{x:Str}{c:Addr}:∀{names:List (Str×NameKind)}{a:Nat},(x,c)∈cellsFrom a names []->(x,NameKind.cell)∈names
 | [],a,h=>nomatch h
 | (n,k)::r,a,h=>by
  unfold cellsFrom at h;split at h
  ·rename_i hk;rw[je,wJ]at h;rcases h with h|h
   ·exact wI _ (JL h)
   ·have:(x,c)=(n,a):=wo.mp h;cases this;rw[beq_iff_eq.mp hk];exact wM
  ·exact wI _ (JL h)
theorem K3{x:Str}:∀{names:List (Str×NameKind)}{a:Nat},(x,NameKind.cell)∈names->∃c,(cellsFrom a names []).lookup x=some c
 | [],a,h=>nomatch h
 | (n,k)::r,a,h=>by
  unfold cellsFrom;rcases wL.mp h with h|h
  ·cases h;rw[if_pos (by decide),je,vI];cases (cellsFrom (a+1) r []).lookup x with
   |none=>exact⟨a,by simp⟩
   |some c=>exact⟨c,rfl⟩
  ·split
   ·obtain⟨c,hc⟩:=K3 (a:=a+1) h;exact⟨c,by rw[je,vI,hc];rfl⟩
   ·exact K3 h
noncomputable def jF(X:Cx)(scope:Scope)(C:Addr):List (Str×Addr):=cellsFrom (C+1) scope.names (Q6 X.env.cells scope.names [])
noncomputable def cxComp(X:Cx)(scope:Scope)(C:Addr)(fp:List Addr)(s₂:Shared)(H₂:Hp)(N:List Str):Cx:=
 { X with N:=N,s₀:=s₂,H₀:=H₂,env:=compEnvC scope (jF X scope C) C X.env,outer:=X.stack,ex:=fp,fn:=λx=>decide (scope.names.lookup x=some .cell),pn:=[],xe:=λ_ _=>False }
noncomputable def inner(src:List (Option Nat))(σ:St):St:=src.map λo=>match o with|none=>none|some j=>(σ[j]?).join
structure CompScope(X:Cx)(scope:Scope)(N:List Str)(src:List (Option Nat)):Prop where
 kind:scope.kind=.function
 uniq:∀y∈scope.names,scope.names.lookup y.1=some y.2
 frees:∀y∈scope.names,y.2=NameKind.free->X.env.kindOf y.1=some .cell\/X.env.kindOf y.1=some .free
 nd:N.Nodup
 len:src.length=N.length
 from_:∀(i:Nat) x j,N[i]?=some x->src[i]?=some (some j)->X.N[j]?=some x/\scope.names.lookup x=some .free
theorem qp{x:Str}{k:NameKind}:∀{names:List (Str×NameKind)},names.lookup x=some k->(x,k)∈names
 | [],h=>by simp at h
 | (n,k')::r,h=>by
  cases hx:x==n with
  |true=>
   simp only[List.lookup_cons,hx]at h;have hx':x=n:=by simpa using hx
   cases h;subst hx';exact wM
  |false=>
   simp only[List.lookup_cons,hx]at h;exact wI _ (qp h)
section
variable{X:Cx}{pins:List (Addr×Obj)}{σ:St}{H₂:Hp}{s₂:Shared}{scope:Scope}{N:List Str}{src:List (Option Nat)}{fp:List Addr}
theorem CompScope.cells(S:CompScope X scope N src)(ok:X.Ok):∀y∈scope.names,y.2=.free->∃c,X.env.cells.lookup y.1=some c:=λy hy hk=>ok.has y.1 (S.frees y hy hk)
theorem CompScope.names(S:CompScope X scope N src):∀y∈scope.names,y.2=NameKind.local->scope.names.lookup y.1=some .local:=λy hy hk=>by rw[<-hk];exact S.uniq y hy
theorem zQ{C:Addr}{h₁:Heap}(ow:CellsOk h₁ (C+1) (cellsFrom (C+1) scope.names [])){x:Str}{c:Addr}(h:(jF X scope C).lookup x=some c):
  ((x,c)∈cellsFrom (C+1) scope.names []/\(x,NameKind.cell)∈scope.names/\h₁.IsCell c none/\C<c)\/X.env.cells.lookup x=some c:=by
 unfold jF at h;rw[je,vI]at h;cases e:(cellsFrom (C+1) scope.names []).lookup x with
 |some c'=>
  rw[e]at h;cases h;have m:=PySem.mem_of_lookup e;exact .inl ⟨m,JL m,(ow.empty x c m).1,(ow.empty x c m).2⟩
 |none=>
  rw[e]at h;rcases qAo (show (Q6 X.env.cells scope.names []).lookup x=some c by simpa using h) with h|h
  ·simp at h
  ·exact .inr h
theorem Zb(S:CompScope X scope N src){C:Addr}{x:Str}{c:Addr}(hf:scope.names.lookup x=some .free)(h:X.env.cells.lookup x=some c):(jF X scope C).lookup x=some c:=by
 unfold jF;rw[je,vI];have:(cellsFrom (C+1) scope.names []).lookup x=none:=by
  cases e:(cellsFrom (C+1) scope.names []).lookup x with
  |none=>rfl
  |some c'=>
   have:=S.uniq _ (JL (PySem.mem_of_lookup e));rw[hf]at this;cases this
 rw[this,qAj h (.inl (qp hf)) (by intro c' h';simp at h')];rfl
theorem qBz(S:CompScope X scope N src)(I:Inv X pins σ H₂ s₂)(f2:∀b∈fp,ZU X pins H₂ b)(ob:∀b∈fp,∃o,s₂.heap.get? b=some o/\∀v,o.data≠.cell v){C:Addr}(hC:s₂.heap.objs.size<=C){h₁:Heap}(ow:CellsOk h₁ (C+1) (cellsFrom (C+1) scope.names [])):
  (cxComp X scope C fp s₂ H₂ N).Ok:=by
 have lt:∀x c,X.env.cells.lookup x=some c->c<s₂.heap.objs.size:=λx c h=>let ⟨v,q⟩:=I.cell x c h;q.lt
 refine⟨I.ok.mod,S.kind,I.ok.glob,I.ok.blt,hC,λx y c h1 h2=>?_,λx hx=>?_,λx c hf h=>?_,I.ok.hd,I.ok.frames,.inl rfl,λb hb=>⟨?_,λx c h=>?_⟩,λb o e=>I.bs b o e,?_,λb o e hb=>?_,λb hb=>?_,I.stack,I.stkFree⟩
 ·rcases zQ ow h1 with⟨m1,_,_,g1⟩|g1<;>rcases zQ ow h2 with⟨m2,_,_,g2⟩|g2
  ·exact PySem.name_of_addr ow.apart m1 m2
  ·exact absurd (vA (wH (lt y c g2) hC) g1) (wl _)
  ·exact absurd (vA (wH (lt x c g1) hC) g2) (wl _)
  ·exact I.ok.inj x y c g1 g2
 ·rcases jK hx with hf|hf
  ·obtain⟨c,hc⟩:=S.cells I.ok (x,.free) (qp hf) rfl;exact⟨c,Zb S hf hc⟩
  ·obtain⟨c,hc⟩:=K3 (a:=C+1) (qp hf);exact⟨c,by show (jF X scope C).lookup x=_;unfold jF;rw[je,vI,hc];rfl⟩
 ·have hf':scope.names.lookup x=some .cell:=uI hf;rcases zQ ow h with⟨_,_,_,g⟩|g
  ·exact vF (wk hC g)
  ·unfold cxComp at h;have h:(jF X scope C).lookup x=some c:=h;obtain⟨c',hc'⟩:=K3 (a:=C+1) (qp hf');have e:(jF X scope C).lookup x=some c':=by unfold jF;rw[je,vI,hc'];rfl
   rw[e]at h;cases h;have:=(ow.empty x c (PySem.mem_of_lookup hc')).2;exact wG hC (Nat.le_of_succ_le this)
 ·obtain⟨o,e,_⟩:=ob b hb;exact wX (wH (Heap.lt_size e) hC)
 ·rcases zQ ow h with⟨_,_,_,g⟩|g
  ·obtain⟨o,e,_⟩:=ob b hb;exact Nat.ne_of_gt (vA (wH (Heap.lt_size e) hC) g)
  ·exact(f2 b hb).2.2.2.2.1 x c g
 ·exact wG I.ok.bsz I.sz
 ·rcases(f2 b hb).2.2.2.1 with z|z
  ·exact I.ok.noex b o e z
  ·exact absurd (wH (Heap.lt_size e) (wG I.ok.bsz z)) (wl _)
 ·intro hz;rcases wL.mp (I.stkSub b hz) with e|e
  ·exact(f2 b hb).2.1 e
  ·exact(f2 b hb).2.2.1 e
theorem JM(S:CompScope X scope N src)(I:Inv X pins σ H₂ s₂)(f2:∀b∈fp,ZU X pins H₂ b)(ob:∀b∈fp,∃o,s₂.heap.get? b=some o/\∀v,o.data≠.cell v){C:Addr}{h₁:Heap}{m:Str->Option Value}{tk n:Nat}
  (hC:s₂.heap.objs.size<C) (keep:∀b o,s₂.heap.get? b=some o->h₁.get? b=some o) (hD:h₁.get? s₂.heap.objs.size=some { cls:=.type "list",data:=.seq #[] n }) (hn:h₁.Ns C m) (ow:CellsOk h₁ (C+1) (cellsFrom (C+1) scope.names [])):
  Inv (cxComp X scope C fp s₂ H₂ N) [] (inner src σ) (upd H₂ s₂.heap.objs.size (.lst [])) { s₂ with heap:=h₁,toks:=tk }:=by
 have lt:∀x c,X.env.cells.lookup x=some c->c<s₂.heap.objs.size:=λx c h=>let ⟨v,q⟩:=I.cell x c h;q.lt
 have hfr:H₂ s₂.heap.objs.size=none:=I.hok.fresh (wF _);refine⟨qBz S I f2 ob (vF hC) ow,rfl,I.bare,Un.laid keep (wF _) hfr,⟨m,hn,λi x v e1 e2 e3=>?_⟩,λx c h=>?_,?_,λx c h=>?_,λp hp=>absurd (show p∈([]:List (Addr×Obj)) from hp) (by simp),I.hok.laid keep (wF _) ⟨by simp,[],n,.nil,hD⟩,?_⟩
 ·have e2':(inner src σ)[i]?=some (some v):=e2;unfold inner at e2';rw[wj]at e2';cases q:src[i]? with
  |none=>rw[q]at e2';cases e2'
  |some o=>
   rw[q]at e2';cases o with
   |none=>cases e2'
   |some j=>
    have ej:(σ[j]?).join=some v:=Option.some.inj e2';have ej':σ[j]?=some (some v):=by
     cases z:σ[j]? with
     |none=>rw[z]at ej;cases ej
     |some w=>rw[z]at ej;exact congrArg some ej
    obtain⟨n1,n2⟩:=S.from_ i x j e1 q;obtain⟨m0,hn0,hl⟩:=I.loc;have hfr':=S.frees (x,.free) (qp n2) rfl;obtain⟨u,r,l⟩:=hl j x v n1 ej' (by rcases hfr' with z|z;exact .inr (.inl z);exact .inr (.inr z));refine⟨u,r,.inr ⟨QU n2,?_⟩⟩;rcases l with⟨k,_⟩|⟨_,c,hc,o,ho,hd⟩
    ·have k':X.env.kindOf x=some .local:=k;rcases hfr' with z|z
     ·have z':X.env.kindOf x=some .cell:=z;rw[k']at z';cases z'
     ·have z':X.env.kindOf x=some .free:=z;rw[k']at z';cases z'
    ·exact⟨c,Zb S n2 hc,o,keep c o ho,hd⟩
 ·rcases zQ ow h with⟨_,_,g,_⟩|g
  ·exact⟨none,g⟩
  ·obtain⟨v,o,ho,hd⟩:=I.cell x c g;exact⟨v,o,keep c o ho,hd⟩
 ·show upd H₂ s₂.heap.objs.size (.lst []) C=none;rw[upd_ne (Nat.ne_of_gt hC)];exact I.hok.fresh (vF hC)
 ·rcases zQ ow h with⟨_,_,_,g⟩|g
  ·rw[upd_ne (Nat.ne_of_gt (vA hC g))];exact I.hok.fresh (vF (vA hC g))
  ·rw[upd_ne (wX (lt x c g))];exact I.freeC x c g
 ·show (inner src σ).length=N.length;unfold inner;rw[wZ,S.len]
theorem Jt(I:Inv X pins σ H₂ s₂)(f2:∀b∈fp,ZU X pins H₂ b){C:Addr}{pins':List (Addr×Obj)}{σ':St}{H':Hp}{s':Shared}{h':Heap}(hC:s₂.heap.objs.size<=C)(J:Inv (cxComp X scope C fp s₂ H₂ N) pins' σ' H' s')
  (kp:∀b o,b≠C->s'.heap.get? b=some o->h'.get? b=some o):Inv X pins σ H' { s' with heap:=h' }:=by
 have neC:∀b o,s₂.heap.get? b=some o->b≠C:=λb o e=>wX (wH (Heap.lt_size e) hC);have B:=J.base;refine I.call' (s':={ s' with heap:=h' }) (ch:=fp) J.os ⟨λb o e n hb hx=>kp b o (neC b o e) (B.keep b o e n hb hx),λb o e n hb hx=>?_,B.free,λb o e hx=>?_,B.tups,B.frzs,B.tbls⟩ (λa o e=>?_) J.bare λb hb=>⟨(f2 b hb).2.2.2.1,(f2 b hb).2.1,(f2 b hb).2.2.2.2⟩
 ·obtain⟨sl,q⟩:=B.slot b o e n hb hx;exact⟨sl,kp b _ (neC b o e) q⟩
 ·obtain⟨o',q⟩:=B.there b o e hx;exact⟨o',kp b o' (neC b o e) q⟩
 ·have nC:H' C=none:=J.free;have ne:∀b u,H' b=some u->b≠C:=λb u q z=>by rw[z,nC]at q;cases q
  refine(J.hok a o e).stay (λc v hc q=>kp c v ?_ q) (λ_ q=>q) λ_ _ q=>q;rcases hc with z|z
  ·rw[z];exact ne a o e
  ·exact ne c _ z
end
def PTs(X:Cx)(ifs:List Expr)(t:TT):Prop:=
 ∀(pins:List (Addr×Obj)) (s:Shared) (σ:St) (H:Hp) (Q:Bool->Hp->Prop),Inv X pins σ H s->t σ H Q ->
  wpAny (model X.prog X.w) X.A (forIn ifs true λc r=>if r=true then do let ok <- isTrue c X.env (eval c X.env);pure (ForInStep.yield ok) else pure (ForInStep.yield r)) (TP X pins σ Q) X.xe s
theorem pts_nil{X:Cx}:PTs X [] (λ_ H Q=>Q true H):=λpins s σ H Q I h=>uE ⟨H,I,h⟩
theorem pts_one{X:Cx}{c:Expr}{t:TT}(hc:PT X c t):PTs X [c] t:=by
 intro pins s σ H Q I h;rw[List.forIn_cons];simp only[if_true];refine uD (uD (thn (hc pins s σ H Q I h) λb s1 q=>?_));exact uE (uE q)
noncomputable def tComp(wi:TI)(src:List (Option Nat))(g:TG)(tc:TT)(te:TE):TE:=λσ H Q=>wi σ H λJ H1=>∀D,H1 D=none ->
 ∃W:Nat->Nat->List V->St->Hp->Prop,(∃m,W 0 m [] (inner src σ) (upd H1 D (.lst [])))/\∀i m ys σ' H',W i m ys σ' H'->H' D=some (.lst ys) ->
  (J.stop i H'/\Q (.ref D) H')\/
  (J.go i H'/\∀x H2,J.yld i H' x H2->g x σ' H2 λσ3 H3=>tc σ3 H3 λb H4=>
   if b=true then te σ3 H4 λy H5=>H5 D=some (.lst ys)/\ys.length<sizeLine/\∃m',m'<m/\W (i+1) m' (ys++[y]) σ3 (upd H5 D (.lst (ys++[y])))
   else H4 D=some (.lst ys)/\∃m',m'<m/\W (i+1) m' ys σ3 H4)
section
variable{X:Cx}{pins:List (Addr×Obj)}{σ:St}{H₂:Hp}{s₂:Shared}{scope:Scope}{N:List Str}{src:List (Option Nat)}
theorem E5{M:Model}{A:Around}{E:Value->Shared->Prop}{s:Shared}{scope:Scope}{globals:Addr}{cl:List (Str×Addr)}{qual:Str}{env:Env}{Q:Env->Shared->Prop}
  (h:Q (newEnv scope s.heap.objs.size globals (cellsFrom (s.heap.objs.size+1) scope.names cl) qual none .none (some env) builtinsNs) { s with heap:=pushCells (s.heap.push { cls:=.type "dict",data:=.dict #[] }) scope.names }):
  wpAny M A (newFunctionEnv scope globals cl [] qual none .none (some env)) Q E s:=by
 simp only[newFunctionEnv,Option.isSome_some,if_true];refine uD (wpAny_alloc ?_);refine uD (wpAny_layCells _ (λname kind cells=>by cases hkc:kind==NameKind.cell<;>simp[hkc]) _ _ _ _ ?_);rw[show ({ s with heap:=s.heap.push { cls:=.type "dict",data:=.dict #[] } }:Shared).heap.objs.size=s.heap.objs.size+1 from Heap.size_push ..];refine uD ?_;rw[List.forIn_nil];exact uE (uE h)
theorem G3{elt tg iter:Expr}{ifs:List Expr}{pos:Pos}{g:TG}{tc:TT}{te:TE}{it:Addr}{fp:List Addr}{tn:Nat->Heap->Prop}{J:It}{Q:VK}{E:Value->Shared->Prop}{RR:Value->Addr->Result->Shared->Prop}
  (hc:X.calm=true) (S:CompScope X scope N src) (I2:Inv X pins σ H₂ s₂) (T:JF X.prog X.w X.K tg J fp it tn) (st2:tn 0 s₂.heap) (f2:∀b∈fp,ZU X pins H₂ b)
  (hg:∀C fp s H,PG (cxComp X scope C fp s H N) tg g) (ht:∀C fp s H,PTs (cxComp X scope C fp s H N) ifs tc) (he:∀C fp s H,PE (cxComp X scope C fp s H N) elt te)
  (h:∀D,H₂ D=none->∃W:Nat->Nat->List V->St->Hp->Prop,(∃m,W 0 m [] (inner src σ) (upd H₂ D (.lst [])))/\∀i m ys σ' H',W i m ys σ' H'->H' D=some (.lst ys) ->
   (J.stop i H'/\Q (.ref D) H')\/
   (J.go i H'/\∀x H2,J.yld i H' x H2->g x σ' H2 λσ3 H3=>tc σ3 H3 λb H4=>
    if b=true then te σ3 H4 λy H5=>H5 D=some (.lst ys)/\ys.length<sizeLine/\∃m',m'<m/\W (i+1) m' (ys++[y]) σ3 (upd H5 D (.lst (ys++[y])))
    else H4 D=some (.lst ys)/\∃m',m'<m/\W (i+1) m' ys σ3 H4))
  (hRR:∀(D C:Addr) (σ':St) (H':Hp) (s':Shared),s₂.heap.objs.size<=C->Inv (cxComp X scope C fp s₂ H₂ N) [] σ' H' s'->Q (.ref D) H'->RR (.ref D) C (.ok .next) s'):
  wpAny (model X.prog X.w) X.A (newList []) (λacc s₃=>wpAny (model X.prog X.w) X.A (newFunctionEnv scope X.env.globals (Q6 X.env.cells scope.names []) [] X.env.qual none .none (some X.env)) (λcenv s₄=>
   codeAny (model X.prog X.w) X.A (.compStart (.ListComp elt [⟨tg,iter,ifs,0⟩] scope pos) 0 (.ref it) acc { cenv with scope:=relabel scope X.env }) (RR acc cenv.locals) s₄) E s₃) E s₂:=by
 refine wpAny_newObj_type (E5 ?_);dsimp only;generalize hH2:s₂.heap.push { cls:=.type "list",dict:=none,data:=.seq ([]:List Value).toArray }=P2;have hC:P2.objs.size=s₂.heap.objs.size+1:=by rw[<-hH2,Heap.size_push]
 have ow:=cellsFrom_ok scope.names (P2.push { cls:=.type "dict",data:=.dict #[] }) (P2.objs.size+1) [] ⟨λ_ _ hm=>(nomatch hm),List.Pairwise.nil⟩ (by rw[Heap.size_push];exact wF _);rw[Heap.size_push]at ow;generalize hh1:pushCells (P2.push { cls:=.type "dict",data:=.dict #[] }) scope.names=h₁ at ow ⊢;have kp:∀b o,P2.get? b=some o->h₁.get? b=some o:=λb o e=>hh1 ▸ pushCells_keeps _ _ b o (Heap.get?_push_of_some _ e);have hns₁:h₁.Ns P2.objs.size (λ_=>none):=hh1 ▸ (Heap.Ns.new P2 (.type "dict")).keeps (pushCells_keeps _ _);have old:∀b o,s₂.heap.get? b=some o->h₁.get? b=some o:=λb o e=>kp b o (hH2 ▸ Heap.get?_push_of_some _ e);have hacc:h₁.get? s₂.heap.objs.size=some { cls:=.type "list",data:=.seq #[] }:=kp _ _ (hH2 ▸ Heap.get?_push_size _ rfl);have st1:tn 0 h₁:=T.keep _ _ _ st2 λb _ o e=>old b o e;have ob:=T.obj _ _ st2;have lt:s₂.heap.objs.size<P2.objs.size:=by rw[hC];exact vW _
 have I3:=JM (tk:=s₂.toks) S I2 f2 ob lt old hacc hns₁ ow;obtain⟨W,⟨m0,w0⟩,step⟩:=h s₂.heap.objs.size I2.fresh;have fpn:∀b∈fp,b≠s₂.heap.objs.size:=λb hb=>by
  obtain⟨o,e,_⟩:=ob b hb;exact wX (Heap.lt_size e)
 have fok:∀{pins':List (Addr×Obj)}{H':Hp},(∀b∈fp,H' b=none)->(∀p∈pins',p.1∉fp)->∀b∈fp,ZU (cxComp X scope P2.objs.size fp s₂ H₂ N) pins' H' b:=λ{pins' H'} hn hp b hb=>by
  have okc:=I3.ok;exact⟨hn b hb,(okc.exf b hb).1,okc.exfs b hb,.inl hb,(okc.exf b hb).2,λp hp' z=>hp p (by simpa [cxComp] using hp') (z ▸ hb)⟩
 have loop:∀s₃:Shared,s₃={ s₂ with heap:=h₁,toks:=s₂.toks } ->
   codeAny (model X.prog X.w) X.A (.compLoop (.ListComp elt [⟨tg,iter,ifs,0⟩] scope pos) 0 (.ref it) (.ref s₂.heap.objs.size) (compEnvC scope (jF X scope P2.objs.size) P2.objs.size X.env))
    (RR (.ref s₂.heap.objs.size) P2.objs.size) s₃:=by
  rintro s₃ rfl;refine codeAny_loop rfl (λn s'=>∃i ys σ' H',Inv (cxComp X scope P2.objs.size fp s₂ H₂ N) [] σ' H' s'/\tn i s'.heap/\(∀b∈fp,H' b=none)/\H' s₂.heap.objs.size=some (.lst ys)/\W i n ys σ' H') (λn s' hI=>?_) m0
   ⟨0,[],inner src σ,_,I3,st1,λb hb=>by rw[upd_ne (fpn b hb)];exact(f2 b hb).1,upd_same,w0⟩
  obtain⟨i,ys,σ3,H3,J3,st3,fr3,hD3,w3⟩:=hI;show wpAny _ X.A ((compTurn (.ListComp elt [⟨tg,iter,ifs,0⟩] scope pos) 0 (.ref it) (.ref s₂.heap.objs.size) _).onRaise (λx=>do noteFrame x _;theTreesLotGoes x)) _ _ s';refine wpAny_noted ?_;rw[compTurn_list];have never:∀{α:Type}{t:Sem α}{Q1:α->Shared->Prop}{E1:Value->Shared->Prop}{s1:Shared},wpAny (model X.prog X.w) X.A t Q1 (λ_ _=>False) s1->wpAny (model X.prog X.w) X.A t Q1 E1 s1:=λh=>wpAny_mono h (λ_ _ q=>q) λ_ _ f=>f.elim;refine uD (wpAny_standAt (uD ?_));rcases step i n ys σ3 H3 w3 hD3 with⟨stop,qn⟩|⟨go,qB0⟩
  ·refine never (thn (T.done (cxComp X scope P2.objs.size fp s₂ H₂ N) rfl rfl rfl hc i [] s' σ3 H3 _ J3 (fok fr3 (by simp)) st3 stop) λr s4 ⟨hr,I4⟩=>?_);subst hr;exact uE (hRR _ _ σ3 H3 s4 (vF lt) I4 qn)
  ·refine never (thn (T.item (cxComp X scope P2.objs.size fp s₂ H₂ N) rfl rfl rfl hc i [] s' σ3 H3 _ J3 (fok fr3 (by simp)) st3 go) λr s4 ⟨u,hr,h4⟩=>?_);subst hr;refine uD (never (thn h4 λ_ s5 ⟨x,H5,I5,r5,y5,st5,fr5⟩=>?_));have I5':=I5.pinned (fok fr5 (by simp)) (T.obj _ _ st5);have kept:∀{σ7:St}{H7:Hp}{s7:Shared},Inv (cxComp X scope P2.objs.size fp s₂ H₂ N) ([]++JY fp s5.heap) σ7 H7 s7->Inv (cxComp X scope P2.objs.size fp s₂ H₂ N) [] σ7 H7 s7/\tn (i+1) s7.heap/\∀b∈fp,H7 b=none:=λ{σ7 H7 s7} I7=>by
    refine⟨I7.unpinned,T.keep _ _ _ st5 λb hb o e=>(I7.pin (b,o) (wS _ (wS _ (jR hb e)))).1,λb hb=>?_⟩;obtain⟨o,e,d⟩:=T.obj _ _ st5 b hb;exact(I7.pin (b,o) (wS _ (wS _ (jR hb e)))).2.1
   refine uD (never (thn (hg _ _ _ _ _ s5 σ3 H5 x u _ I5' r5 (qB0 x H5 y5)) λ_ s6 ⟨σ6,H6,I6,q6⟩=>?_));refine uD (never (thn (ht _ _ _ _ _ s6 σ6 H6 _ I6 q6) λb s7 ⟨H7,I7,q7⟩=>?_));cases b with
   |false=>
    rw[if_neg (by decide)]at q7;obtain⟨hD7,m',hm,w7⟩:=q7;obtain⟨I7',st7,fr7⟩:=kept I7;exact uE ⟨rfl,m',hm,i+1,ys,σ6,H7,I7',st7,fr7,hD7,w7⟩
   |true=>
    rw[if_pos rfl]at q7;refine uD (uD (never (thn (he _ _ _ _ _ s7 σ6 H7 _ I7 q7) λyv s8 ⟨y,H8,I8,r8,hD8,hz,m',hm,w8⟩=>?_)));refine uD (never (thn (mt_append (X:=cxComp X scope P2.objs.size fp s₂ H₂ N) _ s8 σ6 H8 (.ref s₂.heap.objs.size) [y] _ [yv] (λv H'=>v=.non/\H'=upd H8 s₂.heap.objs.size (.lst (ys++[y]))) I8 rfl (.cons r8 .nil) ⟨_,ys,y,rfl,rfl,hD8,hz,rfl,rfl⟩) λ_ s9 ⟨v9,H9,I9,_,_,e9⟩=>?_));subst e9;obtain⟨I9',st9,fr9⟩:=kept I9;exact uE (uE ⟨rfl,m',hm,i+1,_,σ6,_,I9',st9,fr9,upd_same,w8⟩)
 exact codeAny_compStart_list (loop _ rfl) (T.self _ 0 _ _ _ st1 (loop _ rfl))
end
section
variable{X:Cx}{scope:Scope}{N:List Str}{src:List (Option Nat)}{elt tg iter:Expr}{ifs:List Expr}{pos:Pos}{wi:TI}{g:TG}{tc:TT}{te:TE}
theorem pe_comp(hc:X.calm=true)(hi:_P X tg iter wi)(S:CompScope X scope N src)
  (hg:∀C fp s H,PG (cxComp X scope C fp s H N) tg g) (ht:∀C fp s H,PTs (cxComp X scope C fp s H N) ifs tc) (he:∀C fp s H,PE (cxComp X scope C fp s H N) elt te)
  (hs:∀x,foldedSetIterable iter X.env x=pure x:=by intro _;rfl):PE X (.ListComp elt [⟨tg,iter,ifs,0⟩] scope pos) (tComp wi src g tc te):=by
 intro pins s σ H Q I h;rw[eval_ListComp];refine wpAny_comprehension_free (use:=none) rfl hs (zz (S.cells I.ok)) S.kind S.names (thn (hi pins s σ H _ I h) λv s1 h1=>thn h1 λitv s2 h2=>?_);obtain⟨it,fp,tn,J,H2,rfl,I2,T,st2,f2,hW⟩:=h2;refine G3 (Q:=Q) (RR:=λacc C=>compPost (model X.prog X.w) X.A X.xe none (EP X pins σ Q) acc C) hc S I2 T st2 f2 hg ht he hW ?_;intro D C σ' H' s' hC J q;obtain⟨m,hn,_⟩:=id J.loc;exact⟨m,hn,λh' hs'=>⟨.ref D,H',Jt I2 f2 hC J (λb o hb e=>hs'.extBut b o hb e),rfl,q⟩⟩
theorem ps_setcomp{i:Nat}{x:Str}{pos' spos:Pos}(hc:X.calm=true)(hi:_P X tg iter wi)(S:CompScope X scope N src)
  (hg:∀C fp s H,PG (cxComp X scope C fp s H N) tg g) (ht:∀C fp s H,PTs (cxComp X scope C fp s H N) ifs tc) (he:∀C fp s H,PE (cxComp X scope C fp s H N) elt te)
  (hsw:swapsWith (.ListComp elt [⟨tg,iter,ifs,0⟩] scope pos) (some (.Name x pos')) spos.line X.env=pure true)
  (hN:X.N.Nodup) (hx:X.N[i]?=some x) (hl:X.env.scope.names.lookup x=some .local)
  (hs:∀x,foldedSetIterable iter X.env x=pure x:=by intro _;rfl):PS X (.Assign [.Name x pos'] (.ListComp elt [⟨tg,iter,ifs,0⟩] scope pos) spos) (tAsg (tComp wi src g tc te) (qB1 i)):=by
 intro pins s σ H D I h;rw[exec_Assign_Name_used _ _ _ _ hsw];refine uD (wpAny_standAt (uD ?_));show wpAny _ X.A (do let _ <- comprehension (.ListComp elt [⟨tg,iter,ifs,0⟩] scope pos) scope X.env _ (newList []) false (eval iter X.env) (some (assign (.Name x pos') X.env))) _ _ s;refine uD (wpAny_mono (wpAny_comprehension_free (use:=some (assign (.Name x pos') X.env)) (Q:=λ_ s'=>SP X pins D .next s') rfl hs (zz (S.cells I.ok)) S.kind S.names
  (thn (hi pins s σ H _ I h) λv s1 h1=>thn h1 λitv s2 h2=>?_)) (λ_ s' hq=>uE (uE hq)) λ_ _ e=>e)
 obtain⟨it,fp,tn,J,H2,rfl,I2,T,st2,f2,hW⟩:=h2;refine G3 (Q:=λv H'=>D.nx (σ.set i (some v)) H') (RR:=λacc C=>compPost (model X.prog X.w) X.A X.xe (some (assign (.Name x pos') X.env)) (λ_ s'=>SP X pins D .next s') acc C) hc S I2 T st2 f2 hg ht he hW ?_;intro L C σ' H' s' hC J q;obtain⟨m,hn,_⟩:=id J.loc;have I3:Inv X pins σ H' s':=Jt (h':=s'.heap) I2 f2 hC J (λb o hb e=>e);show wpAny _ X.A (assign (.Name x pos') X.env (.ref L)) _ _ _;have nL:X.env.locals≠C:=wX (wH I2.lt hC);refine wpAny_assign_Name (A9 I3 hN hx (.inl hl) (show RelV (.ref L) (.ref L) from rfl) (λs4 I4 hsb=>?_) (.inr hl));obtain⟨a,sb,ha⟩:=hsb;have ha':a≠C:=by
  rcases ha with z|z
  ·rw[z];exact nL
  ·obtain⟨v,hv⟩:=I2.cell x a z;exact wX (wH hv.lt hC)
 refine⟨m,hn.sameBut sb (Ne.symm ha'),λh5 sb5=>?_⟩;have I5:Inv X pins (σ.set i (some (V.ref L))) H' { s4 with heap:=h5,toks:=s4.toks }:=I4.turned (it:=C) (λb o hb e=>sb5.extBut b o hb e) J.free (Ne.symm nL) (.inr (wG I2.sz hC)) (λy c e z=>by
   obtain⟨v,hv⟩:=I2.cell y c e;exact absurd (wH hv.lt (by rw[z];exact hC)) (wl _)) λp hp z=>absurd (wH (Heap.lt_size (I2.pin p hp).1) (by rw[z];exact hC)) (wl _)
 exact⟨_,H',I5,q⟩
end
end _L
namespace _P
open _L (V Key)
open PySem (Str)
inductive BOp|add|sub|mul|fdiv|mod|pow|band|shl
 deriving DecidableEq
inductive COp|lt|le|gt|ge|eq|ne|inn|notin|is|isnot
 deriving DecidableEq
inductive BF|len|sum|all|max|min|abs|list|int|sorted|bits|maxl
 deriving DecidableEq
inductive Mt|clr|ext
 deriving DecidableEq
inductive Tg|name(i:Nat)|tup(is:List Nat)
 deriving DecidableEq
set_option genInjectivity false
mutual
inductive E
 |var (i:Nat)|cst (v:V)|glob (g:Nat)
 |bin (op:BOp) (a b:E)|neg (a:E)
 |cmp (op:COp) (a b:E)|cmp2 (o1 o2:COp) (a b c:E)|cmp3 (o1 o2 o3:COp) (a b c d:E)
 |and (a b:E)|or (a b:E)|not (a:E)|ite (c a b:E)
 |call (f:Nat) (as:Es)|blt (f:BF) (as:Es)|isi (a:E) (ts:List String)
 |idx (a b:E)|sl (a:E) (lo hi:Es)   | lst (as:Es)|tup (as:Es)
 |comp (it:Itr) (src:List (Option Nat)) (g:Tg) (c:Es) (e:E)
 |app (a b:E)|lrng (a:E)|dnew|meth (m:Mt) (a:E) (as:Es)|isx (a:E) (cn ks:List Str)
inductive Es|nil|cons(a:E)(as:Es)
inductive Itr|list(a:E)|rng1(a:E)  | zip(a b:E)|enum(a:E)|revd(a:E)
end
mutual
inductive S
 |asg (g:Tg) (e:E)|par (i j:Nat) (a b:E)|put (o i v:E)
 |expr (e:E)|ret (e:E)  | ifs (c:E) (t u:Ss)
 |for_ (g:Tg) (it:Itr) (b:Ss)|while_ (c:E) (b:Ss)    | stop
 |xexpr (f:Nat) (as:Es)  | raise (c:Nat)     | tryE (b:S) (e i:Nat) (cn:List Str)
inductive Ss|nil|cons(s:S)(r:Ss)
end
set_option genInjectivity true
noncomputable def Es.snoc:Es->E->Es
 | .nil,e=>.cons e .nil
 | .cons a as,e=>.cons a (Es.snoc as e)
inductive Ob|dct(kvs:List (Int×V))|exn(c:Str)
 deriving DecidableEq
inductive O|lst(fz:Bool)(xs:List V)|tup(xs:List V)|ob(o:Ob)
 deriving DecidableEq
noncomputable abbrev AH:=List O
noncomputable abbrev St:=List (Option V)
inductive Res(α:Type)|ok(a:α)|exc(c:Nat)(h:AH)|stuck
noncomputable def Res.bind{α β:Type}:Res α->(α->Res β)->Res β
 | .ok a,f=>f a
 | .exc c h,_=>.exc c h
 | .stuck,_=>.stuck
noncomputable def Res.nx{α:Type}:Res α->Res α
 | .ok a=>.ok a
 | .exc _ _=>.stuck
 | .stuck=>.stuck
noncomputable def qC6(c k:Nat):Bool:=k==c||k==0||k==999
@[simp] theorem tF{α β:Type}(a:α)(f:α->Res β):(Res.ok a).bind f=f a:=rfl
noncomputable abbrev RV:=Res (V×AH)
noncomputable def items(h:AH)(a:Nat):Option (List V):=match h[a]? with
 |some (.lst _ xs)=>some xs
 |some (.tup xs)=>some xs
 |_=>none
noncomputable def qL(h:AH)(a:Nat):Option (List V):=match h[a]? with
 |some (.lst _ xs)=>some xs
 |_=>none
noncomputable def qg(h:AH)(a:Nat):Option (List V):=match h[a]? with
 |some (.tup xs)=>some xs
 |_=>none
noncomputable def C9(h:AH)(a:Nat):Option (List (Int×V)):=match h[a]? with
 |some (.ob (.dct kvs))=>some kvs
 |_=>none
noncomputable def qC5(kvs:List (Int×V))(k:Int):Bool:=kvs.any λp=>decide (p.1=k)
noncomputable def qGQ(kvs:List (Int×V))(k:Int)(v:V):List (Int×V):=if qC5 kvs k=true then kvs.map (λp=>if p.1=k then (p.1,v) else p) else kvs++[(k,v)]
noncomputable def Jb(h:AH)(a:Nat):Option Str:=match h[a]? with
 |some (.ob (.exn c))=>some c
 |_=>none
noncomputable def G8(c k:Str):Bool:=decide (k=c)||decide (k="HealError")||decide (k="ValueError")
noncomputable def zM(h:AH)(a:Nat):Option (List V):=match h[a]? with
 |some (.lst false xs)=>some xs
 |_=>none
noncomputable def lim:Nat:=100000
noncomputable def newL(xs:List V)(h:AH):RV:=.ok (.ref h.length,h++[.lst false xs])
noncomputable def newT(xs:List V)(h:AH):RV:=.ok (.ref h.length,h++[.tup xs])
noncomputable def flat:V->Bool
 | .non=>true | .bl _=>true | .int _=>true | .str _=>true|_=>false
noncomputable def eqF:V->V->Option Bool
 | .int i,.int j=>some (i==j)
 | .bl i,.bl j=>some (i==j)
 | .str i,.str j=>some (i==j)
 | .non,.non=>some true
 | .int i,.bl b=>some (i==(if b then 1 else 0))
 | .bl b,.int i=>some ((if b then 1 else 0)==i)
 | .non,.int _=>some false | .int _,.non=>some false
 | .non,.bl _=>some false | .bl _,.non=>some false
 | .non,.str _=>some false | .str _,.non=>some false
 | .int _,.str _=>some false | .str _,.int _=>some false
 | .bl _,.str _=>some false | .str _,.bl _=>some false
 |_,_=>none
noncomputable def ZX(f:V->V->Option Bool):List V->List V->Option (List Bool)
 | [],[]=>some []
 |x::xs,y::ys=>match f x y,ZX f xs ys with
  |some b,some bs=>some (b::bs)
  |_,_=>none
 |_,_=>none
noncomputable def eqD(h:AH):Nat->V->V->Option Bool
 | 0,x,y=>eqF x y
 |n+1,.ref a,.ref b=>match h[a]?,h[b]? with
  |some (.lst _ xs),some (.lst _ ys)=>if a=b then some true else if xs.length=ys.length then (ZX (eqD h n) xs ys).map λbs=>bs.all id else some false
  |some (.tup xs),some (.tup ys)=>if a=b then some true else if xs.length=ys.length then (ZX (eqD h n) xs ys).map λbs=>bs.all id else (ZX (eqD h n) (xs.take ys.length) (ys.take xs.length)).map λ_=>false
  |some (.lst _ _),some (.tup _)=>some false
  |some (.tup _),some (.lst _ _)=>some false
  |_,_=>none
 |_+1,.ref a,y=>if (items h a).isSome&&flat y then some false else none
 |_+1,x,.ref b=>if flat x&&(items h b).isSome then some false else none
 |_+1,x,y=>eqF x y
noncomputable abbrev ixN(n:Nat)(i:Int):Option Nat:=_L.ixN n i
noncomputable abbrev cut(xs:List V)(lo hi:Option Int):List V:=_L.cutV xs lo hi
noncomputable def two64:Int:=18446744073709551616
noncomputable def jy(i:Int):Bool:=decide (-two64<i/\i<two64)
noncomputable def mid(i:Int):Bool:=decide (i.natAbs.log2<9000)
noncomputable def G4(x y:V)(f:Int->Int->RV):RV:=match x with
 | .int i=>(match y with | .int j=>f i j|_=>.stuck)
 |_=>.stuck
theorem zT{x y:V}{f:Int->Int->RV}{r:V×AH}(e:G4 x y f=.ok r):∃i j,x=.int i/\y=.int j/\f i j=.ok r:=by
 unfold G4 at e;split at e
 ·split at e
  ·exact⟨_,_,rfl,rfl,e⟩
  ·cases e
 ·cases e
noncomputable def P8(x:V)(f:Nat->RV):RV:=match x with
 | .ref a=>f a
 |_=>.stuck
theorem za{x:V}{f:Nat->RV}{r:V×AH}(e:P8 x f=.ok r):∃a,x=.ref a/\f a=.ok r:=by
 unfold P8 at e;split at e
 ·exact⟨_,rfl,e⟩
 ·cases e
noncomputable def qCR:BOp->V->V->AH->RV
 | .add,x,y,h=>(match x with
  | .ref a=>P8 y λb=>(match zM h a,zM h b with
   |some xs,some ys=>if xs.length+ys.length<=lim then newL (xs++ys) h else .stuck
   |_,_=>(match qg h a,qg h b with
    |some xs,some ys=>if xs≠[]/\xs.length+ys.length<=lim then (if ys=[] then .ok (.ref a,h) else newT (xs++ys) h) else .stuck
    |_,_=>.stuck))
  |x=>G4 x y λi j=>.ok (.int (i+j),h))
 | .sub,x,y,h=>G4 x y λi j=>.ok (.int (i-j),h)
 | .mul,x,y,h=>(match x with
  | .ref a=>(match y with
   | .int k=>(match zM h a with
    |some xs=>if 0<=k/\xs.length*k.toNat<=lim/\k<1000000 then newL (List.replicate k.toNat xs).flatten h else .stuck
    |none=>.stuck)
   |_=>.stuck)
  |x=>G4 x y λi j=>if jy i||jy j||(mid i&&mid j) then .ok (.int (i*j),h) else .stuck)
 | .fdiv,x,y,h=>G4 x y λi j=>if 0<j/\(j<1073741824\/mid j=true) then .ok (.int (i / j),h) else if j<0/\mid j=true then .ok (.int (i.fdiv j),h) else .stuck
 | .mod,x,y,h=>G4 x y λi j=>if 0<j then .ok (.int (i % j),h) else if j<0 then .ok (.int (i.fmod j),h) else .stuck
 | .pow,x,y,h=>G4 x y λi j=>if 0<=j/\j<=1000/\i.natAbs<18446744073709551616 then .ok (.int (i ^ j.toNat),h) else .stuck
 | .band,x,y,h=>G4 x y λi j=>.ok (.int (PySem.Builtin.bitAnd i j),h)
 | .shl,x,y,h=>G4 x y λi j=>if 0<=j/\j<=1000/\i.natAbs<18446744073709551616 then .ok (.int (i*2 ^ j.toNat),h) else .stuck
noncomputable def qDA(x y:V)(f:Int->Int->Bool):Option Bool:=match x with
 | .int i=>(match y with | .int j=>some (f i j)|_=>none)
 |_=>none
theorem Qk{x y:V}{f:Int->Int->Bool}{r:Bool}(e:qDA x y f=some r):∃i j,x=.int i/\y=.int j/\f i j=r:=by
 unfold qDA at e;split at e
 ·split at e
  ·exact⟨_,_,rfl,rfl,Option.some.inj e⟩
  ·cases e
 ·cases e
noncomputable def qAd(y:V)(f:Nat->Option Bool):Option Bool:=match y with
 | .ref a=>f a
 |_=>none
theorem I0{y:V}{f:Nat->Option Bool}{r:Bool}(e:qAd y f=some r):∃a,y=.ref a/\f a=some r:=by
 unfold qAd at e;split at e
 ·exact⟨_,rfl,e⟩
 ·cases e
noncomputable def isC(x y:V)(f:Bool->Bool):Option Bool:=match y with
 | .non=>some (f (decide (x=.non)))
 | .bl d=>(match x with | .bl c=>some (f (c==d))|_=>none)
 |_=>none
theorem j7{x y:V}{f:Bool->Bool}{r:Bool}(e:isC x y f=some r):(y=.non/\f (decide (x=.non))=r)\/∃c d,x=.bl c/\y=.bl d/\f (c==d)=r:=by
 unfold isC at e;split at e
 ·exact .inl ⟨rfl,Option.some.inj e⟩
 ·split at e
  ·exact .inr ⟨_,_,rfl,rfl,Option.some.inj e⟩
  ·cases e
 ·cases e
noncomputable def Q5:COp->V->V->AH->Option Bool
 | .lt,x,y,_=>qDA x y λi j=>decide (i<j)
 | .le,x,y,_=>qDA x y λi j=>decide (i<=j)
 | .gt,x,y,_=>qDA x y λi j=>decide (j<i)
 | .ge,x,y,_=>qDA x y λi j=>decide (j<=i)
 | .eq,x,y,h=>eqD h 4 x y
 | .ne,x,y,h=>(eqD h 4 x y).map (!·)
 | .inn,x,y,h=>qAd y λa=>(match items h a with
  |some xs=>if flat x&&xs.all flat then some (xs.any λy=>_L.eqV y x) else none
  |none=>match C9 h a with
   |some kvs=>(match x with | .int i=>some (qC5 kvs i)|_=>none)
   |none=>none)
 | .notin,x,y,h=>qAd y λa=>(match items h a with
  |some xs=>if flat x&&xs.all flat then some (!(xs.any λy=>_L.eqV y x)) else none
  |none=>match C9 h a with
   |some kvs=>(match x with | .int i=>some (!qC5 kvs i)|_=>none)
   |none=>none)
 | .is,x,y,_=>isC x y id
 | .isnot,x,y,_=>isC x y (!·)
noncomputable def l7(op:COp)(x y:V)(h:AH):RV:=match Q5 op x y h with
 |some b=>.ok (.bl b,h)
 |none=>.stuck
noncomputable def jB:List V->Option (List Int)
 | []=>some []
 | .int i::r=>(jB r).map (i::·)
 |_::_=>none
noncomputable def QO:List V->Option (List Bool)
 | []=>some []
 | .bl b::r=>(QO r).map (b::·)
 |_::_=>none
noncomputable def jH:List V->Option (List Int)
 | []=>some []
 | .int i::r=>(jH r).map (i::·)
 | .bl b::r=>(jH r).map ((if b=true then 1 else 0)::·)
 |_::_=>none
noncomputable def jZ(lo:Int)(n:Nat):List V:=(List.range n).map λ(i:Nat)=>V.int (lo+(i:Int))
noncomputable def ins(x:Int):List Int->List Int
 | []=>[x]
 |y::r=>if x<=y then x::y::r else y::ins x r
noncomputable def isort:List Int->List Int
 | []=>[]
 |x::r=>ins x (isort r)
theorem JE(x:Int):∀l,(ins x l).Perm (x::l)
 | []=>.refl _
 |y::r=>by
  unfold ins;split
  ·exact .refl _
  ·exact((JE x r).cons y).trans (.swap x y r)
theorem isort_perm:∀l,(isort l).Perm l
 | []=>.refl _
 |x::r=>(JE x _).trans ((isort_perm r).cons x)
theorem qAx(x:Int):∀l:List Int,l.Pairwise (·<=·)->(ins x l).Pairwise (·<=·)
 | [],_=>List.pairwise_singleton _ _
 |y::r,h=>by
  obtain⟨h1,h2⟩:=vJ.mp h;unfold ins;split
  ·rename_i q;refine vJ.mpr ⟨λz hz=>?_,h⟩;rcases wL.mp hz with rfl|hz
   ·exact q
   ·exact Int.le_trans q (h1 z hz)
  ·rename_i q;refine vJ.mpr ⟨λz hz=>?_,qAx x r h2⟩;rcases wL.mp ((JE x r).mem_iff.mp hz) with rfl|hz
   ·omega
   ·exact h1 z hz
theorem isort_le:∀l:List Int,(isort l).Pairwise (·<=·)
 | []=>.nil
 |x::r=>qAx x _ (isort_le r)
theorem sort_one:∀{a b:List Int},a.Pairwise (·<=·)->b.Pairwise (·<=·)->a.Perm b->a=b
 | [],b,_,_,p=>(List.Perm.eq_nil p.symm).symm
 |x::a,[],_,_,p=>absurd p.length_eq (by simp)
 |x::a,y::b,ha,hb,p=>by
  obtain⟨a1,a2⟩:=vJ.mp ha;obtain⟨b1,b2⟩:=vJ.mp hb;have e:x=y:=by
   have m1:x∈y::b:=p.mem_iff.mp (wM ..);have m2:y∈x::a:=p.mem_iff.mpr (wM ..);rcases wL.mp m1 with h|h
   ·exact h
   ·rcases wL.mp m2 with h' | h'
    ·exact h'.symm
    ·have:=a1 y h';have:=b1 x h;omega
  subst e;rw[sort_one a2 b2 (List.Perm.cons_inv p)]
noncomputable def Y5:List Int->Option Int
 | []=>none
 |x::r=>match Y5 r with|some y=>some (if x<=y then y else x)|none=>some x
theorem B7:∀{l:List Int}{k:Int},Y5 l=some k->k∈l/\∀a∈l,a<=k
 | [],k,e=>by cases e
 |x::r,k,e=>by
  unfold Y5 at e;split at e
  ·rename_i y ey;obtain⟨h1,h2⟩:=B7 ey;cases e;split
   ·rename_i q;exact⟨wI _ h1,λa ha=>by rcases wL.mp ha with rfl|ha;exact q;exact h2 a ha⟩
   ·rename_i q;exact⟨wM ..,λa ha=>by rcases wL.mp ha with rfl|ha;exact Int.le_refl _;have:=h2 a ha;omega⟩
  ·rename_i ey;cases e;cases r with
   |nil=>exact⟨wM ..,λa ha=>by rw[wo.mp ha];exact Int.le_refl _⟩
   |cons z r=>unfold Y5 at ey;split at ey<;>cases ey
noncomputable def one(as:List V)(f:V->RV):RV:=match as with
 | [a]=>f a
 |_=>.stuck
theorem zt{as:List V}{f:V->RV}{r:V×AH}(e:one as f=.ok r):∃a,as=[a]/\f a=.ok r:=by
 unfold one at e;split at e
 ·exact⟨_,rfl,e⟩
 ·cases e
noncomputable def two(as:List V)(f:V->V->RV):RV:=match as with
 | [a,b]=>f a b
 |_=>.stuck
theorem two_inv{as:List V}{f:V->V->RV}{r:V×AH}(e:two as f=.ok r):∃a b,as=[a,b]/\f a b=.ok r:=by
 unfold two at e;split at e
 ·exact⟨_,_,rfl,e⟩
 ·cases e
noncomputable def qEo:BF->List V->AH->RV
 | .len,as,h=>one as λx=>P8 x λa=>(match items h a with|some xs=>.ok (.int xs.length,h)|none=>.stuck)
 | .sum,as,h=>one as λx=>P8 x λa=>(match qL h a with
  |some xs=>match jH xs with|some is=>.ok (.int is.sum,h)|none=>.stuck
  |none=>.stuck)
 | .all,as,h=>one as λx=>P8 x λa=>(match qL h a with
  |some xs=>match QO xs with|some bs=>.ok (.bl (bs.all id),h)|none=>.stuck
  |none=>.stuck)
 | .max,as,h=>two as λx y=>G4 x y λi j=>.ok (.int (if j>i then j else i),h)
 | .min,as,h=>two as λx y=>G4 x y λi j=>.ok (.int (if j<i then j else i),h)
 | .abs,as,h=>one as λx=>(match x with | .int i=>.ok (.int (if i<0 then -i else i),h)|_=>.stuck)
 | .list,as,h=>one as λx=>P8 x λa=>(match items h a with|some xs=>newL xs h|none=>.stuck)
 | .int,as,h=>one as λx=>(match x with | .int i=>.ok (.int i,h) | .bl b=>.ok (.int (if b then 1 else 0),h)|_=>.stuck)
 | .maxl,as,h=>one as λx=>P8 x λa=>(match qL h a with
  |some xs=>match (jB xs).bind Y5 with|some k=>.ok (.int k,h)|none=>.stuck
  |none=>.stuck)
 | .bits,as,h=>one as λx=>(match x with | .int i=>.ok (.int ((PySem.Builtin.Int.intBits i:Nat):Int),h)|_=>.stuck)
 | .sorted,as,h=>one as λx=>P8 x λa=>(match qL h a with
  |some xs=>match jB xs with|some is=>if is.length<64 then newL ((isort is).map V.int) h else .stuck|none=>.stuck
  |none=>.stuck)
noncomputable def ZW:Mt->Nat->List V->AH->RV
 | .clr,p,[],h=>match zM h p with|some _=>.ok (.non,h.set p (.lst false []))|none=>.stuck
 | .ext,p,[.ref q],h=>match zM h p with
  |some xs=>(match zM h q with|some ys=>if p≠q/\xs.length+ys.length<=lim then .ok (.non,h.set p (.lst false (xs++ys))) else .stuck|none=>.stuck)
  |none=>.stuck
 |_,_,_,_=>.stuck
noncomputable def jC(h:AH):V->Option String
 | .non=>some "NoneType"
 | .bl _=>some "bool"
 | .int _=>some "int"
 | .str _=>some "str"
 | .ref a=>match h[a]? with|some (.lst _ _)=>some "list" | some (.tup _)=>some "tuple" | some (.ob (.dct _))=>some "dict" | _=>none
 |_=>none
noncomputable def jI(t c:String):Bool:=t==c||(t=="bool"&&c=="int")
inductive Src|list(a:Nat)|tupl(a:Nat)|rng(lo:Int)(n:Nat)|zip(a b:Nat)|enum(a:Nat)|rvd(a n:Nat)
noncomputable def j9(h:AH):Src->Option Nat
 | .list a=>(qL h a).map List.length
 | .tupl a=>(qg h a).map List.length
 | .rng _ n=>some n
 | .zip a b=>match qL h a,qL h b with|some xs,some ys=>some (min xs.length ys.length)|_,_=>none
 | .enum a=>(qL h a).map List.length
 | .rvd _ n=>some n
noncomputable def qt(h:AH)(i:Nat):Src->Option (V×AH)
 | .list a=>match qL h a with|some xs=>xs[i]?.map λx=>(x,h)|none=>none
 | .tupl a=>match qg h a with|some xs=>xs[i]?.map λx=>(x,h)|none=>none
 | .rng lo n=>if i<n then some (.int (lo+(i:Int)),h) else none
 | .zip a b=>match qL h a,qL h b with
  |some xs,some ys=>match xs[i]?,ys[i]? with|some x,some y=>some (.ref h.length,h++[.tup [x,y]])|_,_=>none
  |_,_=>none
 | .enum a=>match qL h a with|some xs=>xs[i]?.map λx=>(.ref h.length,h++[.tup [.int (i:Int),x]])|none=>none
 | .rvd a n=>if i<n then (match qL h a with|some xs=>xs[n-1-i]?.map λx=>(x,h)|none=>none) else none
noncomputable def jd(h:AH)(i:Nat):Src->Bool
 | .list a=>match qL h a with|some xs=>decide (xs.length<=i)|none=>false
 | .tupl a=>match qg h a with|some xs=>decide (xs.length<=i)|none=>false
 | .rng _ n=>decide (n<=i)
 | .zip a b=>match qL h a,qL h b with|some xs,some ys=>decide (xs.length<=i\/ys.length<=i)|_,_=>false
 | .enum a=>match qL h a with|some xs=>decide (xs.length<=i)|none=>false
 | .rvd _ n=>decide (i=n)
noncomputable def Zo:List Nat->List V->St->Option St
 | [],[],σ=>some σ
 |i::is,x::xs,σ=>Zo is xs (σ.set i (some x))
 |_,_,_=>none
noncomputable def store:Tg->V->St->AH->Option St
 | .name i,v,σ,_=>some (σ.set i (some v))
 | .tup is,.ref a,σ,h=>match qg h a with|some xs=>Zo is xs σ | none=>none
 | .tup _,_,_,_=>none
noncomputable def Qw(s:Src)(g:Tg)(c:St->AH->Res (Bool×AH))(e:St->AH->RV)(D:Nat):Nat->Nat->List V->St->AH->RV
 | 0,i,_,_,h=>if jd h i s then .ok (.ref D,h) else .stuck
 |n+1,i,ys,σ,h=>match qt h i s with
  |some (x,h1)=>match store g x σ h1 with
   |some σ1=>(c σ1 h1).bind λ(b,h2)=>
    if b then (e σ1 h2).bind λ(y,h3)=>if h3[D]?=some (.lst false ys)/\ys.length<lim then Qw s g c e D n (i+1) (ys++[y]) σ1 (h3.set D (.lst false (ys++[y]))) else .stuck
    else if h2[D]?=some (.lst false ys) then Qw s g c e D n (i+1) ys σ1 h2 else .stuck
   |none=>.stuck
  |none=>.stuck
noncomputable def asB(r:RV):Res (Bool×AH):=r.bind λ(v,h)=>match v with | .bl b=>.ok (b,h)|_=>.stuck
section
variable (F:Nat->List V->AH->RV)
mutual
noncomputable def ev:E->St->AH->RV
 | .var i=>λσ h=>match σ[i]? with|some (some v)=>.ok (v,h)|_=>.stuck
 | .cst v=>λ_ h=>.ok (v,h)
 | .glob g=>λ_ h=>.ok (.ref g,h)
 | .bin op a b=>λσ h=>(ev a σ h).bind λ(x,h1)=>(ev b σ h1).bind λ(y,h2)=>qCR op x y h2
 | .neg a=>λσ h=>(ev a σ h).bind λ(x,h1)=>match x with | .int i=>.ok (.int (-i),h1)|_=>.stuck
 | .cmp op a b=>λσ h=>(ev a σ h).bind λ(x,h1)=>(ev b σ h1).bind λ(y,h2)=>l7 op x y h2
 | .cmp2 o1 o2 a b c=>λσ h=>(ev a σ h).bind λ(x,h1)=>(ev b σ h1).bind λ(y,h2)=>match Q5 o1 x y h2 with
  |some true=>(ev c σ h2).bind λ(z,h3)=>l7 o2 y z h3
  |some false=>.ok (.bl false,h2)
  |none=>.stuck
 | .cmp3 o1 o2 o3 a b c d=>λσ h=>(ev a σ h).bind λ(x,h1)=>(ev b σ h1).bind λ(y,h2)=>match Q5 o1 x y h2 with
  |some true=>(ev c σ h2).bind λ(z,h3)=>match Q5 o2 y z h3 with
   |some true=>(ev d σ h3).bind λ(w,h4)=>l7 o3 z w h4
   |some false=>.ok (.bl false,h3)
   |none=>.stuck
  |some false=>.ok (.bl false,h2)
  |none=>.stuck
 | .and a b=>λσ h=>(asB (ev a σ h)).bind λ(x,h1)=>if x then ev b σ h1 else .ok (.bl false,h1)
 | .or a b=>λσ h=>(asB (ev a σ h)).bind λ(x,h1)=>if x then .ok (.bl true,h1) else ev b σ h1
 | .not a=>λσ h=>(asB (ev a σ h)).bind λ(x,h1)=>.ok (.bl (!x),h1)
 | .ite c a b=>λσ h=>(asB (ev c σ h)).bind λ(x,h1)=>if x then ev a σ h1 else ev b σ h1
 | .call f as=>λσ h=>(evs as σ h).bind λ(xs,h1)=>(F f xs h1).nx
 | .blt f as=>λσ h=>(evs as σ h).bind λ(xs,h1)=>qEo f xs h1
 | .isi a ts=>λσ h=>(ev a σ h).bind λ(x,h1)=>match jC h1 x with|some t=>.ok (.bl (ts.any (jI t)),h1)|none=>.stuck
 | .idx a b=>λσ h=>(ev a σ h).bind λ(x,h1)=>(ev b σ h1).bind λ(y,h2)=>match x,y with
  | .ref p,.int i=>match items h2 p with
   |some xs=>match (ixN xs.length i).bind λj=>xs[j]? with|some v=>.ok (v,h2)|none=>.stuck
   |none=>.stuck
  |_,_=>.stuck
 | .sl a lo hi=>λσ h=>(ev a σ h).bind λ(x,h1)=>(evs lo σ h1).bind λ(l,h2)=>(evs hi σ h2).bind λ(u,h3)=>
  match x,jB l,jB u with
  | .ref p,some l,some u=>match qL h3 p with
   |some xs=>newL (cut xs l.head? u.head?) h3
   |none=>match qg h3 p with
    |some xs=>if _H.sIx xs.length 0 l.head?=0/\_H.sIx xs.length xs.length u.head?=xs.length then .stuck else newT (cut xs l.head? u.head?) h3
    |none=>.stuck
  |_,_,_=>.stuck
 | .lst as=>λσ h=>(evs as σ h).bind λ(xs,h1)=>if xs.length<=lim then newL xs h1 else .stuck
 | .tup as=>λσ h=>(evs as σ h).bind λ(xs,h1)=>if xs.length<=lim then newT xs h1 else .stuck
 | .comp it src g c e=>λσ h=>(evi it σ h).bind λ(s,h1)=>match j9 (h1++[.lst false []]) s with
  |some n=>Qw s g (evc c) (ev e) h1.length n 0 [] (_L.inner src σ) (h1++[.lst false []])
  |none=>.stuck
 | .app a b=>λσ h=>(ev a σ h).bind λ(x,h1)=>match x with
  | .ref p=>(match qL h1 p with
   |some _=>(ev b σ h1).bind λ(y,h2)=>match zM h2 p with
    |some xs=>if xs.length<lim then .ok (.non,h2.set p (.lst false (xs++[y]))) else .stuck
    |none=>.stuck
   |none=>.stuck)
  |_=>.stuck
 | .lrng a=>λσ h=>(ev a σ h).bind λ(x,h1)=>match x with | .int j=>if -1000000<=j/\j<=100000 then newL (jZ 0 j.toNat) h1 else .stuck|_=>.stuck
 | .dnew=>λ_ h=>.ok (.ref h.length,h++[.ob (.dct [])])
 | .isx a cn ks=>λσ h=>(ev a σ h).bind λ(x,h1)=>P8 x λp=>(match Jb h1 p with|some c=>if cn.contains c=true then .ok (.bl (ks.any (G8 c)),h1) else .stuck|none=>.stuck)
 | .meth m a as=>λσ h=>(ev a σ h).bind λ(x,h1)=>match x with
  | .ref p=>(match qL h1 p with
   |some _=>(evs as σ h1).bind λ(ys,h2)=>ZW m p ys h2
   |none=>.stuck)
  |_=>.stuck
noncomputable def evs:Es->St->AH->Res (List V×AH)
 | .nil=>λ_ h=>.ok ([],h)
 | .cons a as=>λσ h=>(ev a σ h).bind λ(x,h1)=>(evs as σ h1).bind λ(xs,h2)=>.ok (x::xs,h2)
noncomputable def evc:Es->St->AH->Res (Bool×AH)
 | .nil=>λ_ h=>.ok (true,h)
 | .cons a _=>λσ h=>asB (ev a σ h)
noncomputable def evi:Itr->St->AH->Res (Src×AH)
 | .list a=>λσ h=>(ev a σ h).bind λ(x,h1)=>match x with | .ref p=>(match h1[p]? with|some (.lst _ _)=>.ok (.list p,h1)|some (.tup _)=>.ok (.tupl p,h1)|_=>.stuck)|_=>.stuck
 | .rng1 a=>λσ h=>(ev a σ h).bind λ(x,h1)=>match x with | .int j=>if -1000000<=j/\j<=1000000 then .ok (.rng 0 j.toNat,h1) else .stuck|_=>.stuck
 | .zip a b=>λσ h=>(ev a σ h).bind λ(x,h1)=>(ev b σ h1).bind λ(y,h2)=>match x,y with
  | .ref p,.ref q=>match qL h2 p,qL h2 q with|some _,some _=>.ok (.zip p q,h2)|_,_=>.stuck
  |_,_=>.stuck
 | .enum a=>λσ h=>(ev a σ h).bind λ(x,h1)=>match x with | .ref p=>(match qL h1 p with|some _=>.ok (.enum p,h1)|none=>.stuck)|_=>.stuck
 | .revd a=>λσ h=>(ev a σ h).bind λ(x,h1)=>match x with | .ref p=>(match qL h1 p with|some xs=>.ok (.rvd p xs.length,h1)|none=>.stuck)|_=>.stuck
end
inductive Out|nx(σ:St)|rt(v:V)|bk(σ:St)|ct(σ:St)
noncomputable abbrev RS:=Res (Out×AH)
noncomputable def O0(s:Src)(g:Tg)(b:St->AH->RS):Nat->Nat->St->AH->RS
 | 0,i,σ,h=>if jd h i s then .ok (.nx σ,h) else .stuck
 |n+1,i,σ,h=>match qt h i s with
  |some (x,h1)=>match store g x σ h1 with
   |some σ1=>(b σ1 h1).bind λ(o,h2)=>match o with
    | .nx σ2=>O0 s g b n (i+1) σ2 h2
    | .ct σ2=>O0 s g b n (i+1) σ2 h2
    | .bk σ2=>.ok (.nx σ2,h2)
    | .rt v=>.ok (.rt v,h2)
   |none=>.stuck
  |none=>.stuck
noncomputable def jA(c:St->AH->Res (Bool×AH))(b:St->AH->RS):Nat->St->AH->RS
 | 0,_,_=>.stuck
 |n+1,σ,h=>(c σ h).bind λ(t,h1)=>if t then (b σ h1).bind λ(o,h2)=>match o with
   | .nx σ2=>jA c b n σ2 h2
   | .ct σ2=>jA c b n σ2 h2
   | .bk σ2=>.ok (.nx σ2,h2)
   | .rt v=>.ok (.rt v,h2)
  else .ok (.nx σ,h1)
noncomputable def qAw:Nat:=1000000
mutual
noncomputable def ex:S->St->AH->RS
 | .asg g e=>λσ h=>(ev F e σ h).bind λ(x,h1)=>match store g x σ h1 with|some σ1=>.ok (.nx σ1,h1)|none=>.stuck
 | .par i j a b=>λσ h=>(ev F a σ h).bind λ(x,h1)=>(ev F b σ h1).bind λ(y,h2)=>.ok (.nx ((σ.set i (some x)).set j (some y)),h2)
 | .put o i v=>λσ h=>(ev F v σ h).bind λ(x,h1)=>(ev F o σ h1).bind λ(p,h2)=>(ev F i σ h2).bind λ(k,h3)=>match p,k with
  | .ref a,.int k=>match zM h3 a with
   |some xs=>match ixN xs.length k with|some j=>.ok (.nx σ,h3.set a (.lst false (xs.set j x)))|none=>.stuck
   |none=>match C9 h3 a with
    |some kvs=>if flat x=true/\kvs.length<lim then .ok (.nx σ,h3.set a (.ob (.dct (qGQ kvs k x)))) else .stuck
    |none=>.stuck
  |_,_=>.stuck
 | .expr e=>λσ h=>(ev F e σ h).bind λ(_,h1)=>.ok (.nx σ,h1)
 | .ret e=>λσ h=>(ev F e σ h).bind λ(x,h1)=>.ok (.rt x,h1)
 | .ifs c t u=>λσ h=>(asB (ev F c σ h)).bind λ(x,h1)=>if x then exs t σ h1 else exs u σ h1
 | .for_ g it b=>λσ h=>(evi F it σ h).bind λ(s,h1)=>match j9 h1 s with
  |some n=>O0 s g (exs b) n 0 σ h1
  |none=>.stuck
 | .while_ c b=>λσ h=>jA (λσ h=>asB (ev F c σ h)) (exs b) qAw σ h
 | .stop=>λ_ _=>.stuck
 | .xexpr f as=>λσ h=>(evs F as σ h).bind λ(xs,h1)=>(F f xs h1).bind λ(_,h2)=>.ok (.nx σ,h2)
 | .raise c=>λ_ h=>.exc c h
 | .tryE b e i cn=>λσ h=>match ex b σ h with
  | .exc c h1=>(match cn[c]? with|some x=>.ok (.nx ((σ.set i (some (.ref h1.length))).set e none),h1++[.ob (.exn x)])|none=>.stuck)
  |r=>r
noncomputable def exs:Ss->St->AH->RS
 | .nil=>λσ h=>.ok (.nx σ,h)
 | .cons s r=>λσ h=>(ex s σ h).bind λ(o,h1)=>match o with
  | .nx σ1=>exs r σ1 h1
  |o=>.ok (o,h1)
end
end
structure Fn where
 npar:Nat
 nslot:Nat
 body:Ss
noncomputable def Fk(tb:List Fn):Nat->Nat->List V->AH->RV
 | 0,_,_,_=>.stuck
 |k+1,f,vs,h=>match tb[f]? with
  |some d=>if vs.length=d.npar/\d.npar<=d.nslot then (exs (Fk tb k) d.body (vs.map some++List.replicate (d.nslot-d.npar) none) h).bind λ(o,h1)=>match o with
    | .nx _=>.ok (.non,h1)
    | .rt v=>.ok (v,h1)
    |_=>.stuck
   else .stuck
  |none=>.stuck
open PySem PySem.Spec PyProof.Rows
open _L (Hp HO Cx PE PT PA PS PSs TE TT TA TS VK upd upd_same upd_ne SqL SqT ZT)
def rv(φ:List Addr):V->V->Prop
 | .ref i,.ref a=>φ[i]?=some a
 | .non,.non=>True
 | .bl b,.bl c=>b=c
 | .int i,.int j=>i=j
 | .str x,.str y=>x=y
 |_,_=>False
abbrev rvs(φ:List Addr):List V->List V->Prop:=Paired (rv φ)
def ropt(φ:List Addr):Option V->Option V->Prop
 |some v,oc=>∃w,oc=some w/\rv φ v w
 |none,_=>True
abbrev rst(φ:List Addr):St->St->Prop:=Paired (ropt φ)
def Ext(φ φ':List Addr):Prop:=∃r,φ'=φ++r
theorem Ext.refl(φ:List Addr):Ext φ φ:=⟨[],by simp⟩
theorem Ext.trans{a b c:List Addr}(h:Ext a b)(g:Ext b c):Ext a c:=by
 obtain⟨r,rfl⟩:=h;obtain⟨q,rfl⟩:=g;exact⟨r++q,by simp⟩
theorem Ext.get{φ φ':List Addr}(x:Ext φ φ'){i:Nat}{a:Addr}(h:φ[i]?=some a):φ'[i]?=some a:=by
 obtain⟨r,rfl⟩:=x;rw[wD (wB.mp h).1];exact h
theorem rv.mono{φ φ':List Addr}(x:Ext φ φ'):∀{v w:V},rv φ v w->rv φ' v w
 | .ref i,.ref a,h=>x.get h
 | .non,.non,h=>h
 | .bl _,.bl _,h=>h
 | .int _,.int _,h=>h
 | .str _,.str _,h=>h
 | .byt _,_,h=>by cases h
 | .flt _,_,h=>by cases h
 | .ty _,_,h=>by cases h
theorem rvs.mono{φ φ':List Addr}(x:Ext φ φ'){vs ws:List V}(h:rvs φ vs ws):rvs φ' vs ws:=_L.Paired.mapP h λ_ _ r=>rv.mono x r
theorem ropt.mono{φ φ':List Addr}(x:Ext φ φ'):∀{v w:Option V},ropt φ v w->ropt φ' v w
 |some v,oc,h=>by obtain⟨w,e,r⟩:=h;exact⟨w,e,rv.mono x r⟩
 |none,_,_=>trivial
theorem rst.mono{φ φ':List Addr}(x:Ext φ φ'){σ τ:St}(h:rst φ σ τ):rst φ' σ τ:=_L.Paired.mapP h λ_ _ r=>ropt.mono x r
theorem qH{α β:Type}{R:α->β->Prop}:∀{xs:List α}{ys:List β}{i:Nat}{x:α},Paired R xs ys->xs[i]?=some x->∃y,ys[i]?=some y/\R x y
 |_,_,_,_,.nil,e=>by simp at e
 |_,_,0,_,.cons r _,e=>by simp at e;subst e;exact⟨_,rfl,r⟩
 |_,_,i+1,x,.cons _ t,e=>by
  obtain⟨u,h1,h2⟩:=qH (i:=i) (x:=x) t (by simpa using e);exact⟨u,by simpa using h1,h2⟩
theorem qz{α β:Type}{R:α->β->Prop}{x:α}{u:β}(r:R x u):∀{xs:List α}{us:List β}(i:Nat),Paired R xs us->Paired R (xs.set i x) (us.set i u)
 |_,_,_,.nil=>.nil
 |_,_,0,.cons _ t=>.cons r t
 |_,_,i+1,.cons q t=>.cons q (qz r i t)
theorem qR{α β:Type}{R:α->β->Prop}:∀{xs ys:List α}{us ws:List β},Paired R xs us->Paired R ys ws->Paired R (xs++ys) (us++ws)
 |_,_,_,_,.nil,s=>s
 |_,_,_,_,.cons r t,s=>.cons r (qR t s)
theorem zu{α β:Type}{R:α->β->Prop}:∀{xs:List α}{us:List β}(n:Nat),Paired R xs us->Paired R (xs.take n) (us.take n)
 |_,_,0,_=>.nil
 |_,_,_+1,.nil=>.nil
 |_,_,n+1,.cons r t=>.cons r (zu n t)
theorem ZK{α β:Type}{R:α->β->Prop}:∀{xs:List α}{us:List β}(n:Nat),Paired R xs us->Paired R (xs.drop n) (us.drop n)
 |_,_,0,r=>r
 |_,_,_+1,.nil=>.nil
 |_,_,n+1,.cons _ t=>ZK n t
theorem Zh{α β:Type}{R:α->β->Prop}{xs:List α}{us:List β}(h:Paired R xs us):∀k:Nat,Paired R (List.replicate k xs).flatten (List.replicate k us).flatten
 | 0=>.nil
 |k+1=>by
  rw[List.replicate_succ,List.replicate_succ,List.flatten_cons,List.flatten_cons];exact qR h (Zh h k)
noncomputable def kk(p:Int×V):_L.Key×V:=(.inl p.1,p.2)
noncomputable def O.mu:O->Bool
 | .lst false _=>true | .ob (.dct _)=>true|_=>false
def exP(a C:Addr):Heap->Prop:=λh=>∃o,h.get? a=some o/\o.cls=.ref C
def ro(K:PySem.W.Frag)(φ:List Addr)(H:Hp)(a:Addr):O->Prop
 | .lst false xs=>∃ys,H a=some (.lst ys)/\rvs φ xs ys
 | .lst true xs=>∃ys,((∃o,H a=some (.frz o (.lst ys)))\/SqL K (λ_=>none) a ys)/\rvs φ xs ys
 | .tup xs=>∃ys,SqT K H a ys/\rvs φ xs ys
 | .ob (.dct kvs)=>H a=some (.dK (kvs.map kk))
 | .ob (.exn x)=>∃C,PySem.W.nsIn K mainGlobals x=some (some (.ref C))/\H a=some (.ext (exP a C))
structure Rl(K:PySem.W.Frag)(G:List Addr)(φ:List Addr)(h:AH)(H:Hp):Prop where
 len:φ.length=h.length
 glob:Ext G φ
 obj:∀(i:Nat) o a,h[i]?=some o->φ[i]?=some a->ro K φ H a o
 inj:∀(i j:Nat) x y a,x.mu=true->y.mu=true->h[i]?=some x->h[j]?=some y->φ[i]?=some a->φ[j]?=some a->i=j
section
variable{K:PySem.W.Frag}{G φ φ':List Addr}{h:AH}{H H':Hp}{a b p:Addr}
theorem qAP{xs:List V}(s:ZT H H')(q:SqT K H a xs):SqT K H' a xs:=by
 rcases q with(h|⟨o,h⟩)|h
 ·exact .inl (.inl (s _ _ h))
 ·exact .inl (.inr ⟨o,s _ _ h⟩)
 ·exact .inr h
theorem m7{xs:List V}(q:SqL K (λ_=>none) a xs):SqL K H a xs:=by
 rcases q with(h|⟨o,h⟩)|h
 ·cases h
 ·cases h
 ·exact .inr h
theorem JG{o:HO}(hp:H p=none):ZT H (upd H p o):=λb u e=>by rw[upd_ne (_L.ne_of_none e hp)];exact e
theorem ro.keep{o:O}(x:Ext φ φ')(s:ZT H H')(r:ro K φ H a o):ro K φ' H' a o:=by
 match o,r with
 | .lst false xs,⟨ys,e,r⟩=>exact⟨ys,s _ _ e,rvs.mono x r⟩
 | .lst true xs,⟨ys,.inl ⟨o,e⟩,r⟩=>exact⟨ys,.inl ⟨o,s _ _ e⟩,rvs.mono x r⟩
 | .lst true xs,⟨ys,.inr e,r⟩=>exact⟨ys,.inr e,rvs.mono x r⟩
 | .tup xs,⟨ys,e,r⟩=>exact⟨ys,qAP s e,rvs.mono x r⟩
 | .ob (.dct _),e=>exact s _ _ e
 | .ob (.exn _),⟨C,e1,e2⟩=>exact⟨C,e1,s _ _ e2⟩
def Wr(w:HO):Prop:=(∃zs,w=.lst zs)\/∃ks,w=.dK ks
theorem ro.wr{o:O}(m:o.mu=true)(r:ro K φ H a o):∃w,H a=some w/\Wr w:=by
 match o,m,r with
 | .lst false xs,_,⟨ys,e,r⟩=>exact⟨_,e,.inl ⟨_,rfl⟩⟩
 | .ob (.dct _),_,e=>exact⟨_,e,.inr ⟨_,rfl⟩⟩
theorem Wr.ne{w v:HO}(h:Wr w)(e:H a=some v)(hb:H b=some w)(h1:∀zs,v≠.lst zs)(h2:∀ks,v≠.dK ks):a≠b:=λz=>by
 subst z;rw[e]at hb;cases hb;rcases h with⟨zs,rfl⟩|⟨ks,rfl⟩
 ·exact h1 _ rfl
 ·exact h2 _ rfl
theorem ro.other{o:O}{w w':HO}(hw:Wr w)(hb:H b=some w)(hne:o.mu=true->a≠b)(r:ro K φ H a o):ro K φ (upd H b w') a o:=by
 match o,r with
 | .lst false xs,⟨ys,e,r⟩=>exact⟨ys,by rw[upd_ne (hne rfl)];exact e,r⟩
 | .lst true xs,⟨ys,.inl ⟨o,e⟩,r⟩=>exact⟨ys,.inl ⟨o,by rw[upd_ne (hw.ne e hb (λ_ z=>by cases z) (λ_ z=>by cases z))];exact e⟩,r⟩
 | .lst true xs,⟨ys,.inr e,r⟩=>exact⟨ys,.inr e,r⟩
 | .tup xs,⟨ys,e,r⟩=>
  refine⟨ys,?_,r⟩;rcases e with(h|⟨o,h⟩)|h
  ·exact .inl (.inl (by rw[upd_ne (hw.ne h hb (λ_ z=>by cases z) (λ_ z=>by cases z))];exact h))
  ·exact .inl (.inr ⟨o,by rw[upd_ne (hw.ne h hb (λ_ z=>by cases z) (λ_ z=>by cases z))];exact h⟩)
  ·exact .inr h
 | .ob (.dct _),e=>exact(by show upd H b _ a=_;rw[upd_ne (hne rfl)];exact e)
 | .ob (.exn _),⟨C,e1,e2⟩=>exact⟨C,e1,by rw[upd_ne (hw.ne e2 hb (λ_ z=>by cases z) (λ_ z=>by cases z))];exact e2⟩
theorem Rl.at(R:Rl K G φ h H){i:Nat}{o:O}(e:h[i]?=some o):∃a,φ[i]?=some a/\ro K φ H a o:=by
 have hi:i<φ.length:=by rw[R.len];exact(wB.mp e).1
 exact⟨φ[i],wE hi,R.obj i o _ e (wE hi)⟩
theorem Rl.new(R:Rl K G φ h H)(hp:H p=none){o:O}{ob:HO}(n:ro K (φ++[p]) (upd H p ob) p o):Rl K G (φ++[p]) (h++[o]) (upd H p ob):=by
 have x:Ext φ (φ++[p]):=⟨[p],rfl⟩
 refine⟨by simp[R.len],R.glob.trans x,λi u a e1 e2=>?_,λi j xs ys a m1 m2 e1 e2 e3 e4=>?_⟩
 ·by_cases hi:i<h.length
  ·rw[wD hi]at e1;rw[wD (by rw[R.len];exact hi)]at e2;exact(R.obj i u a e1 e2).keep x (JG hp)
  ·have hi':i=h.length:=by
    have:=(wB.mp e1).1;simp at this;omega
   subst hi';simp at e1;rw[<-R.len]at e2;simp at e2;subst e1 e2;exact n
 ·have lt:∀{k:Nat}{z:O},(h++[o])[k]?=some z->(h[k]?=some z/\k<h.length)\/k=h.length:=λ{k zs} e=>by
   by_cases hk:k<h.length
   ·rw[wD hk]at e;exact .inl ⟨e,hk⟩
   ·have:=(wB.mp e).1;simp at this;exact .inr (by omega)
  have old:∀{k:Nat}{b:Addr},k<h.length->(φ++[p])[k]?=some b->φ[k]?=some b:=λ{k b} hk e=>by
   rwa [wD (by rw[R.len];exact hk)]at e
  have newA:∀{b:Addr},(φ++[p])[h.length]?=some b->b=p:=λ{b} e=>by
   rw[<-R.len]at e;simp at e;exact e.symm
  rcases lt e1 with⟨e1,h1⟩|rfl<;>rcases lt e2 with⟨e2,h2⟩|rfl
  ·exact R.inj i j xs ys a m1 m2 e1 e2 (old h1 e3) (old h2 e4)
  ·have ea:=newA e4;subst ea;obtain⟨w,hz,_⟩:=(R.obj i _ a e1 (old h1 e3)).wr m1;rw[hp]at hz;cases hz
  ·have ea:=newA e3;subst ea;obtain⟨w,hz,_⟩:=(R.obj j _ a e2 (old h2 e4)).wr m2;rw[hp]at hz;cases hz
  ·rfl
theorem Rl.more(R:Rl K G φ h H)(hp:H p=none){ob:HO}:Rl K G φ h (upd H p ob):=
 ⟨R.len,R.glob,λi u a e1 e2=>(R.obj i u a e1 e2).keep (Ext.refl _) (JG hp),R.inj⟩
theorem Rl.exn(R:Rl K G φ h H){i:Nat}{x:Str}(e:Jb h i=some x):∃a C,φ[i]?=some a/\PySem.W.nsIn K mainGlobals x=some (some (.ref C))/\H a=some (.ext (exP a C)):=by
 unfold Jb at e;split at e
 ·rename_i c q;cases e;obtain⟨a,ea,C,r1,r2⟩:=R.at q;exact⟨a,C,ea,r1,r2⟩
 ·cases e
theorem Rl.newL(R:Rl K G φ h H)(hp:H p=none){xs ys:List V}(r:rvs φ xs ys):Rl K G (φ++[p]) (h++[.lst false xs]) (upd H p (.lst ys)):=
 R.new hp ⟨ys,upd_same,rvs.mono ⟨[p],rfl⟩ r⟩
theorem Rl.newT(R:Rl K G φ h H)(hp:H p=none){xs ys:List V}(r:rvs φ xs ys):Rl K G (φ++[p]) (h++[.tup xs]) (upd H p (.tup ys)):=
 R.new hp ⟨ys,.inl (.inl upd_same),rvs.mono ⟨[p],rfl⟩ r⟩
theorem Rl.lastRef(R:Rl K G φ h H):(φ++[p])[h.length]?=some p:=by rw[<-R.len];simp
theorem Rl.write(R:Rl K G φ h H){i:Nat}{x y:O}{w':HO}(mx:x.mu=true)(my:y.mu=true)(e:h[i]?=some x)(ea:φ[i]?=some a)(n:ro K φ (upd H a w') a y):Rl K G φ (h.set i y) (upd H a w'):=by
 have hi:=(wB.mp e).1;obtain⟨w,hw,ww⟩:=(R.obj i _ a e ea).wr mx;have lk:∀{k:Nat}{z:O},z.mu=true->(h.set i y)[k]?=some z->∃z',z'.mu=true/\h[k]?=some z':=λ{k zs} m q=>by
  by_cases hk:k=i
  ·subst hk;exact⟨x,mx,e⟩
  ·rw[wW (Ne.symm hk)]at q;exact⟨zs,m,q⟩
 refine⟨by simp[R.len],R.glob,λk u b e1 e2=>?_,λk l us vs b m1 m2 e1 e2 e3 e4=>?_⟩
 ·by_cases hk:k=i
  ·subst hk;rw[wn hi]at e1;rw[ea]at e2;cases e1;cases e2;exact n
  ·rw[wW (Ne.symm hk)]at e1;refine(R.obj k u b e1 e2).other ww hw λmu hb=>?_;subst hb;exact hk (R.inj k i u x b mu mx e1 e e2 ea)
 ·obtain⟨z1,n1,q1⟩:=lk m1 e1;obtain⟨z2,n2,q2⟩:=lk m2 e2;exact R.inj k l z1 z2 b n1 n2 q1 q2 e3 e4
theorem Rl.set(R:Rl K G φ h H){i:Nat}{xs ys zs:List V}(e:h[i]?=some (.lst false xs))(ea:φ[i]?=some a)(r:rvs φ ys zs):Rl K G φ (h.set i (.lst false ys)) (upd H a (.lst zs)):=
 R.write rfl rfl e ea ⟨zs,upd_same,r⟩
theorem Rl.dct(R:Rl K G φ h H){i:Nat}{kvs:List (Int×V)}(e:C9 h i=some kvs):∃a,φ[i]?=some a/\h[i]?=some (.ob (.dct kvs))/\H a=some (.dK (kvs.map kk)):=by
 unfold C9 at e;split at e
 ·rename_i zs q;cases e;obtain⟨a,ea,r⟩:=R.at q;exact⟨a,ea,q,r⟩
 ·cases e
theorem Rl.lst(R:Rl K G φ h H){i:Nat}{xs:List V}(e:qL h i=some xs):∃a ys,φ[i]?=some a/\SqL K H a ys/\rvs φ xs ys:=by
 unfold qL at e;split at e
 ·rename_i fz zs q;cases e;obtain⟨a,ea,r⟩:=R.at q;cases fz with
  |false=>obtain⟨ys,e,r⟩:=r;exact⟨a,ys,ea,.inl (.inl e),r⟩
  |true=>
   obtain⟨ys,e,r⟩:=r;rcases e with⟨o,e⟩|e
   ·exact⟨a,ys,ea,.inl (.inr ⟨o,e⟩),r⟩
   ·exact⟨a,ys,ea,m7 e,r⟩
 ·cases e
theorem Rl.tup(R:Rl K G φ h H){i:Nat}{xs:List V}(e:qg h i=some xs):∃a ys,φ[i]?=some a/\SqT K H a ys/\rvs φ xs ys:=by
 unfold qg at e;split at e
 ·rename_i zs q;cases e;obtain⟨a,ea,ys,e,r⟩:=R.at q;exact⟨a,ys,ea,e,r⟩
 ·cases e
theorem Rl.mut(R:Rl K G φ h H){i:Nat}{xs:List V}(e:zM h i=some xs):h[i]?=some (.lst false xs)/\∃a ys,φ[i]?=some a/\H a=some (.lst ys)/\rvs φ xs ys:=by
 unfold zM at e;split at e
 ·rename_i zs q;cases e;obtain⟨a,ea,ys,e,r⟩:=R.at q;exact⟨q,a,ys,ea,e,r⟩
 ·cases e
theorem Rl.its(R:Rl K G φ h H){i:Nat}{xs:List V}(e:items h i=some xs):∃a ys,φ[i]?=some a/\(SqL K H a ys\/SqT K H a ys)/\rvs φ xs ys:=by
 unfold items at e;split at e
 ·rename_i fz zs q;cases e;obtain⟨a,ys,h1,h2,h3⟩:=R.lst (i:=i) (xs:=xs) (by unfold qL;rw[q]);exact⟨a,ys,h1,.inl h2,h3⟩
 ·rename_i zs q;cases e;obtain⟨a,ys,h1,h2,h3⟩:=R.tup (i:=i) (xs:=xs) (by unfold qg;rw[q]);exact⟨a,ys,h1,.inr h2,h3⟩
 ·cases e
end
open _L (PG Inv RelV Vals EP TP AP SP OpR CallR R2)
theorem tK{α β:Type}{r:Res α}{f:α->Res β}{x:β}(h:r.bind f=.ok x):∃a,r=.ok a/\f a=.ok x:=by
 cases r with
 |ok a=>exact⟨a,rfl,h⟩
 |exc c h'=>cases h
 |stuck=>cases h
theorem qC{φ:List Addr}{i:Int}{w:V}(h:rv φ (.int i) w):w=.int i:=by
 cases w with
 |int j=>exact congrArg V.int (show i=j from h).symm
 |_=>exact False.elim h
theorem zd{φ:List Addr}{i:Bool}{w:V}(h:rv φ (.bl i) w):w=.bl i:=by
 cases w with
 |bl j=>exact congrArg V.bl (show i=j from h).symm
 |_=>exact False.elim h
theorem zj{φ:List Addr}{i:Str}{w:V}(h:rv φ (.str i) w):w=.str i:=by
 cases w with
 |str j=>exact congrArg V.str (show i=j from h).symm
 |_=>exact False.elim h
theorem zW{φ:List Addr}{w:V}(h:rv φ .non w):w=.non:=by
 cases w with
 |non=>rfl
 |_=>exact False.elim h
theorem qJ{φ:List Addr}{i:Nat}{w:V}(h:rv φ (.ref i) w):∃a,w=.ref a/\φ[i]?=some a:=by
 cases w with
 |ref j=>exact⟨j,rfl,h⟩
 |_=>exact False.elim h
section
variable (K:PySem.W.Frag)(G:List Addr)(F:Nat->List V->AH->RV)
noncomputable def tE(e:E):TE:=λσc H Q=>∃φ h σ v h',Rl K G φ h H/\rst φ σ σc/\ev F e σ h=.ok (v,h')/\∀φ' H' w,Ext φ φ'->Rl K G φ' h' H'->rv φ' v w->Q w H'
noncomputable def tB(r:St->AH->Res (Bool×AH)):TT:=λσc H Q=>∃φ h σ b h',Rl K G φ h H/\rst φ σ σc/\r σ h=.ok (b,h')/\∀φ' H',Ext φ φ'->Rl K G φ' h' H'->Q b H'
noncomputable abbrev tT(e:E):TT:=tB K G (λσ h=>asB (ev F e σ h))
noncomputable def tL(as:Es):TA:=λσc H Q=>∃φ h σ vs h',Rl K G φ h H/\rst φ σ σc/\evs F as σ h=.ok (vs,h')/\∀φ' H' ws,Ext φ φ'->Rl K G φ' h' H'->rvs φ' vs ws->Q ws H'
end
section
variable{X:Cx}{G:List Addr}{F:Nat->List V->AH->RV}
theorem zD{e:Expr}{t t':TE}(h:PE X e t)(w:∀σ H Q,t' σ H Q->t σ H Q):PE X e t':=λpins s σ H Q I q=>h pins s σ H Q I (w σ H Q q)
theorem S3{e:Expr}{t t':TT}(h:PT X e t)(w:∀σ H Q,t' σ H Q->t σ H Q):PT X e t':=λpins s σ H Q I q=>h pins s σ H Q I (w σ H Q q)
theorem qCv{e:List Expr}{t t':TA}(h:PA X e t)(w:∀σ H Q,t' σ H Q->t σ H Q):PA X e t':=λpos pins s σ H Q I q=>h pos pins s σ H Q I (w σ H Q q)
variable (X G F) in
abbrev SE(e:Expr)(a:E):Prop:=PE X e (tE X.K G F a)
variable (X G F) in
abbrev ST(e:Expr)(a:E):Prop:=PT X e (tT X.K G F a)
variable (X G F) in
abbrev SA(es:List Expr)(as:Es):Prop:=PA X es (tL X.K G F as)
variable{K:PySem.W.Frag}{φ φ':List Addr}{h h1 h2:AH}{H:Hp}{σ σc:St}{a b:E}{x y:V}
theorem QF(R:Rl K G φ h H)(rs:rst φ σ σc)(ea:ev F a σ h=.ok (x,h1))(eb:ev F b σ h1=.ok (y,h2)){Rr:V->V->Hp->Prop}
  (k:∀φ2 H2 xc yc,Ext φ φ2->Rl K G φ2 h2 H2->rv φ2 x xc->rv φ2 y yc->Rr xc yc H2):tE K G F a σc H (λxc H1=>tE K G F b σc H1 (λyc H2=>Rr xc yc H2)):=
 ⟨φ,h,σ,x,h1,R,rs,ea,λφ1 H1 xc e1 R1 r1=>⟨φ1,h1,σ,y,h2,R1,rst.mono e1 rs,eb,λφ2 H2 yc e2 R2 r2=>k φ2 H2 xc yc (e1.trans e2) R2 (rv.mono e2 r1) r2⟩⟩
theorem qDG{i:Nat}{n:Str}{pos:Pos}(hN:X.N[i]?=some n)(hv:_L.Vis X.env.scope n)(hd:(n==("__debug__":Str))=false)(hcd:(n==("__classdict__":Str))=false):SE X G F (.Name n pos) (.var i):=by
 refine zD (_L.pe_var hN hv hd hcd) λσc H Q q=>?_;obtain⟨φ,h,σ,v,h',R,rs,e,k⟩:=q;unfold ev at e;split at e
 ·rename_i w q;cases e;obtain⟨oc,ec,r⟩:=qH rs q;obtain⟨u,rfl,r⟩:=r;exact⟨u,ec,k φ H u (.refl _) R r⟩
 ·cases e
theorem Z0{v:V}{w:V}{σc:St}{H:Hp}{Q:VK}(hr:∀φ,rv φ v w)(q:tE K G F (.cst v) σc H Q):_L.tC w σc H Q:=by
 obtain⟨φ,h,σ,v',h',R,rs,e,k⟩:=q;unfold ev at e;cases e;exact k φ H w (.refl _) R (hr φ)
theorem qA0 {i j pos}:SE X G F (.Constant (.int i) j pos) (.cst (.int i)):=zD _L.pe_int λ_ _ _=>Z0 λ_=>rfl
theorem qD1 {i j pos}:SE X G F (.Constant (.bool i) j pos) (.cst (.bl i)):=zD _L.pe_bl λ_ _ _=>Z0 λ_=>rfl
theorem qAr {j pos}:SE X G F (.Constant .none j pos) (.cst .non):=zD _L.pe_non λ_ _ _=>Z0 λ_=>trivial
theorem qA3 {i j pos}:SE X G F (.Constant (.str i) j pos) (.cst (.str i)):=zD _L.pe_str λ_ _ _=>Z0 λ_=>rfl
theorem qCe{n:Str}{v:V}{u:Value}{pos:Pos}(hg:_L.Gl X n)(hm:X.mg n=some u)(r:RelV v u)(hv:∀φ,rv φ v v)(hd:(n==("__debug__":Str))=false):SE X G F (.Name n pos) (.cst v):=
 zD (_L.pe_glob hg hm r hd) λ_ _ _=>Z0 hv
theorem qCQ{n:Str}{g:Nat}{a:Addr}{pos:Pos}(hg:_L.Gl X n)(hm:X.mg n=some (.ref a))(hG:G[g]?=some a)(hd:(n==("__debug__":Str))=false):SE X G F (.Name n pos) (.glob g):=by
 refine zD (_L.pe_glob (v:=.ref a) hg hm rfl hd) λσc H Q q=>?_;obtain⟨φ,h,σ,v',h',R,rs,e,k⟩:=q;unfold ev at e;cases e;exact k φ H (.ref a) (.refl _) R (R.glob.get hG)
noncomputable def opB:BOp->Operator
 | .add=>.Add | .sub=>.Sub | .mul=>.Mult | .fdiv=>.FloorDiv | .mod=>.Mod | .pow=>.Pow | .band=>.BitAnd | .shl=>.LShift
def qG6(i j:Int):Prop:=j≠0/\j.natAbs.log2<9000
theorem n9:OpR X (binaryOp .FloorDiv) (_L.rI qG6 λi j=>.int (i.fdiv j)):=_L.opI λ_ _ _ _ _ _ _ hc q=>floordiv_int hc.1 q (.inl (PyProof.noPylong_of_log2 hc.2))
def qHM(i j:Int):Prop:=i.natAbs.log2<9000/\j.natAbs.log2<9000
theorem J1{i:Int}(h:i.natAbs.log2<9000):Builtin.Int.intBits i<=2 ^ 20:=by
 unfold Builtin.Int.intBits;have e:(2:Nat) ^ 20=1048576:=by decide
 rw[e];split<;>omega
theorem qBv:OpR X (binaryOp .Mult) (_L.rI qHM λi j=>.int (i*j)):=_L.opI λ_ _ _ _ _ _ _ hc q=>mul_int q (IntMulOk.of_bits (J1 hc.1) (J1 hc.2))
theorem K7{i:Int}(h:mid i=true):i.natAbs.log2<9000:=uI h
noncomputable def qHF(K:PySem.W.Frag):BOp->R2
 | .add=>λx y H Q=>(_L.rI0 (λi j=>.int (i+j)) x y H Q\/_L.rCat x y H Q)\/_L.rCatT K x y H Q
 | .sub=>_L.rI0 λi j=>.int (i-j)
 | .mul=>λx y H Q=>(_L.rI _L.CMul (λi j=>.int (i*j)) x y H Q\/_L.rRep x y H Q)\/_L.rI qHM (λi j=>.int (i*j)) x y H Q
 | .fdiv=>λx y H Q=>_L.rI _L.CDiv (λi j=>.int (i / j)) x y H Q\/_L.rI qG6 (λi j=>.int (i.fdiv j)) x y H Q
 | .mod=>λx y H Q=>_L.rI (λ_ j=>0<j) (λi j=>.int (i % j)) x y H Q\/_L.rI (λ_ j=>j≠0) (λi j=>.int (i.fmod j)) x y H Q
 | .pow=>_L.rI _L.CPow λi j=>.int (i ^ j.toNat)
 | .band=>_L.rI0 λi j=>.int (Builtin.bitAnd i j)
 | .shl=>_L.rI _L.CPow λi j=>.int (i*2 ^ j.toNat)
theorem qCP:∀op,OpR X (binaryOp (opB op)) (qHF X.K op)
 | .add=>(_L.op_add.or _L.op_cat).or _L.op_catT
 | .sub=>_L.op_sub
 | .mul=>(_L.op_mul.or _L.op_rep).or qBv
 | .fdiv=>_L.op_fdiv.or n9
 | .mod=>_L.op_mod.or _L.op_modN
 | .pow=>_L.op_pow
 | .band=>_L.op_and
 | .shl=>_L.op_shl
theorem ZF:lim<=sizeLine:=by decide
theorem qBP:lim<sizeLine:=by decide
theorem J7{i:Int}(h:jy i=true):-(2 ^ 64)<i/\i<2 ^ 64:=by
 unfold jy two64 at h;have:=uI h;omega
theorem qBW{op:BOp}{v xc yc:V}{h':AH}{Q:VK}(e:qCR op x y h=.ok (v,h'))(R:Rl K G φ h H)(rx:rv φ x xc)(ry:rv φ y yc)
  (k:∀φ' H' w,Ext φ φ'->Rl K G φ' h' H'->rv φ' v w->Q w H'):qHF K op xc yc H Q:=by
 cases op with
 |add=>
  dsimp only[qCR]at e;split at e
  ·replace e:=za e;obtain⟨b,rfl,e⟩:=e;split at e
   ·rename_i xs ys e1 e2;split at e
    ·rename_i hl;cases e;obtain⟨q1,a1,ys1,ha1,hH1,r1⟩:=R.mut e1;obtain⟨q2,a2,ys2,ha2,hH2,r2⟩:=R.mut e2;obtain⟨b1,rfl,hb1⟩:=qJ rx;obtain⟨b2,rfl,hb2⟩:=qJ ry;rw[ha1]at hb1;cases hb1;rw[ha2]at hb2;cases hb2;refine .inl (.inr ⟨a1,a2,ys1,ys2,rfl,rfl,hH1,hH2,?_,λp hp=>k (φ++[p]) _ _ ⟨[p],rfl⟩ (R.newL hp (qR r1 r2)) R.lastRef⟩);have l1:=Paired.length r1;have l2:=Paired.length r2;have:=ZF;omega
    ·cases e
   ·split at e
    ·rename_i xs ys e1 e2;split at e
     ·rename_i hl;obtain⟨a1,ys1,ha1,hH1,r1⟩:=R.tup e1;obtain⟨a2,ys2,ha2,hH2,r2⟩:=R.tup e2;obtain⟨b1,rfl,hb1⟩:=qJ rx;obtain⟨b2,rfl,hb2⟩:=qJ ry;rw[ha1]at hb1;cases hb1;rw[ha2]at hb2;cases hb2;have l1:=Paired.length r1;have l2:=Paired.length r2;refine .inr ⟨a1,a2,ys1,ys2,rfl,rfl,hH1,hH2,?_,?_,λz=>?_,λz p hp=>?_⟩
      ·rintro rfl;exact hl.1 (wb.mp l1)
      ·have:=ZF;omega
      ·subst z;rw[if_pos (wb.mp l2)]at e;cases e;exact k φ H _ (.refl _) R ha1
      ·rw[if_neg (λq=>z (by subst q;exact wb.mp l2.symm))]at e;cases e;exact k (φ++[p]) _ _ ⟨[p],rfl⟩ (R.newT hp (qR r1 r2)) R.lastRef
     ·cases e
    ·cases e
  ·replace e:=zT e;obtain⟨i,j,rfl,rfl,e⟩:=e;cases e;cases qC rx;cases qC ry;exact .inl (.inl ⟨_,_,rfl,rfl,k φ H _ (.refl _) R rfl⟩)
 |sub=>
  replace e:=zT e;obtain⟨i,j,rfl,rfl,e⟩:=e;cases e;cases qC rx;cases qC ry;exact⟨_,_,rfl,rfl,k φ H _ (.refl _) R rfl⟩
 |mul=>
  dsimp only[qCR]at e;split at e
  ·split at e
   ·split at e
    ·rename_i xs e1;split at e
     ·rename_i hl;obtain⟨h0,hl,h3⟩:=hl;cases e;obtain⟨q1,a1,ys1,ha1,hH1,r1⟩:=R.mut e1;obtain⟨b1,rfl,hb1⟩:=qJ rx;rw[ha1]at hb1;cases hb1;cases qC ry;refine .inl (.inr ⟨a1,_,ys1,rfl,rfl,hH1,by omega,by omega,?_,λp hp=>k (φ++[p]) _ _ ⟨[p],rfl⟩ (R.newL hp (Zh r1 _)) R.lastRef⟩);have l1:=Paired.length r1;have:=ZF;rw[<-l1];omega
     ·cases e
    ·cases e
   ·cases e
  ·replace e:=zT e;obtain⟨i,j,rfl,rfl,e⟩:=e;split at e
   ·rename_i hs;cases e;cases qC rx;cases qC ry;rw[vT,vT,wC]at hs;rcases hs with(z|z)|z
    ·exact .inl (.inl ⟨_,_,rfl,rfl,.inl (J7 z),k φ H _ (.refl _) R rfl⟩)
    ·exact .inl (.inl ⟨_,_,rfl,rfl,.inr (J7 z),k φ H _ (.refl _) R rfl⟩)
    ·exact .inr ⟨_,_,rfl,rfl,⟨K7 z.1,K7 z.2⟩,k φ H _ (.refl _) R rfl⟩
   ·cases e
 |fdiv=>
  replace e:=zT e;obtain⟨i,j,rfl,rfl,e⟩:=e;split at e
  ·rename_i hc;cases e;cases qC rx;cases qC ry;rcases hc.2 with z|z
   ·exact .inl ⟨_,_,rfl,rfl,⟨hc.1,z⟩,k φ H _ (.refl _) R rfl⟩
   ·refine .inr ⟨_,_,rfl,rfl,⟨by omega,K7 z⟩,?_⟩;dsimp only;rw[Int.fdiv_eq_ediv_of_nonneg _ (by omega)];exact k φ H _ (.refl _) R rfl
  ·split at e
   ·rename_i hc;cases e;cases qC rx;cases qC ry;exact .inr ⟨_,_,rfl,rfl,⟨by omega,K7 hc.2⟩,k φ H _ (.refl _) R rfl⟩
   ·cases e
 |mod=>
  replace e:=zT e;obtain⟨i,j,rfl,rfl,e⟩:=e;split at e
  ·rename_i hc;cases e;cases qC rx;cases qC ry;exact .inl ⟨_,_,rfl,rfl,hc,k φ H _ (.refl _) R rfl⟩
  ·split at e
   ·rename_i hc;cases e;cases qC rx;cases qC ry;exact .inr ⟨_,_,rfl,rfl,(by omega),k φ H _ (.refl _) R rfl⟩
   ·cases e
 |pow=>
  replace e:=zT e;obtain⟨i,j,rfl,rfl,e⟩:=e;split at e
  ·rename_i hc;cases e;cases qC rx;cases qC ry;refine⟨_,_,rfl,rfl,⟨hc.1,by omega,by omega⟩,k φ H _ (.refl _) R rfl⟩
  ·cases e
 |band=>
  replace e:=zT e;obtain⟨i,j,rfl,rfl,e⟩:=e;cases e;cases qC rx;cases qC ry;exact⟨_,_,rfl,rfl,k φ H _ (.refl _) R rfl⟩
 |shl=>
  replace e:=zT e;obtain⟨i,j,rfl,rfl,e⟩:=e;split at e
  ·rename_i hc;cases e;cases qC rx;cases qC ry;refine⟨_,_,rfl,rfl,⟨hc.1,by omega,by omega⟩,k φ H _ (.refl _) R rfl⟩
  ·cases e
theorem qA4{op:BOp}{ea eb:Expr}{pos:Pos}(ha:SE X G F ea a)(hb:SE X G F eb b):SE X G F (.BinOp ea (opB op) eb pos) (.bin op a b):=by
 refine zD (_L.pe_op (qCP op) ha hb) λσc H Q q=>?_;obtain⟨φ,h,σ,v,h',R,rs,e,k⟩:=q;unfold ev at e;obtain⟨⟨x,h1⟩,e1,e⟩:=tK e;obtain⟨⟨y,h2⟩,e2,e⟩:=tK e;exact QF R rs e1 e2 λφ2 H2 xc yc x2 R2 r1 r2=>qBW e R2 r1 r2 λφ' H' w x' R' r'=>k φ' H' w (x2.trans x') R' r'
theorem qEI{ea:Expr}{pos:Pos}(ha:SE X G F ea a):SE X G F (.UnaryOp .USub ea pos) (.neg a):=by
 refine zD (_L.pe_un _L.un_neg ha) λσc H Q q=>?_;obtain⟨φ,h,σ,v,h',R,rs,e,k⟩:=q;unfold ev at e;obtain⟨⟨x,h1⟩,e1,e⟩:=tK e;refine⟨φ,h,σ,x,h1,R,rs,e1,λφ1 H1 xc x1 R1 r1=>?_⟩;dsimp only at e;split at e
 ·cases e;cases qC r1;exact⟨_,rfl,k φ1 H1 _ x1 R1 rfl⟩
 ·cases e
end
open PySem.SeqAt
structure Eq3(A:Around)(s:Shared)(u w:Value)(b:Bool):Prop where
 eq:EqAt A s u w b
 rc:RcAt A s u w b
 ne:RcNeAt A s u w (!b)
theorem Js{A:Around}{s:Shared}{φ:List Addr}:∀{x y xc yc:V}{u w:Value}{b:Bool},eqF x y=some b->rv φ x xc->rv φ y yc->RelV xc u->RelV yc w->Eq3 A s u w b:=by
 intro x y xc yc u w b e rx ry ru rw';cases x with
 |non=>
  cases zW rx;cases ru;cases y with
  |non=>cases zW ry;cases rw';cases e;exact⟨.same _,.none_none,.none_none⟩
  |bl j=>cases zd ry;cases rw';cases e;exact⟨.none_bool _,.none_bool _,.none_bool _⟩
  |int j=>cases qC ry;obtain⟨t,rfl⟩:=rw';cases e;exact⟨.none_int _ _,.none_int _ _,.none_int _ _⟩
  |str j=>cases zj ry;obtain⟨t,rfl⟩:=rw';cases e;exact⟨.none_str _ _,.none_str _ _,.none_str _ _⟩
  |_=>cases e
 |bl i=>
  cases zd rx;cases ru;cases y with
  |non=>cases zW ry;cases rw';cases e;exact⟨.bool_none _,.bool_none _,.bool_none _⟩
  |bl j=>cases zd ry;cases rw';cases e;exact⟨.bool_bool _ _,.bool_bool _ _,.bool_bool _ _⟩
  |int j=>cases qC ry;obtain⟨t,rfl⟩:=rw';cases e;exact⟨.bool_int _ _ _,.bool_int _ _ _,.bool_int _ _ _⟩
  |str j=>cases zj ry;obtain⟨t,rfl⟩:=rw';cases e;exact⟨.bool_str _ _ _,.bool_str _ _ _,.bool_str _ _ _⟩
  |_=>cases e
 |int i=>
  cases qC rx;obtain⟨t,rfl⟩:=ru;cases y with
  |non=>cases zW ry;cases rw';cases e;exact⟨.int_none _ _,.int_none _ _,.int_none _ _⟩
  |bl j=>cases zd ry;cases rw';cases e;exact⟨.int_bool _ _ _,.int_bool _ _ _,.int_bool _ _ _⟩
  |int j=>cases qC ry;obtain⟨t,rfl⟩:=rw';cases e;exact⟨.int_int _ _ _ _,.int_int _ _ _ _,.int_int _ _ _ _⟩
  |str j=>cases zj ry;obtain⟨t,rfl⟩:=rw';cases e;exact⟨.int_str _ _ _ _,.int_str _ _ _ _,.int_str _ _ _ _⟩
  |_=>cases e
 |str i=>
  cases zj rx;obtain⟨t,rfl⟩:=ru;cases y with
  |non=>cases zW ry;cases rw';cases e;exact⟨.str_none _ _,.str_none _ _,.str_none _ _⟩
  |bl j=>cases zd ry;cases rw';cases e;exact⟨.str_bool _ _ _,.str_bool _ _ _,.str_bool _ _ _⟩
  |int j=>cases qC ry;obtain⟨t,rfl⟩:=rw';cases e;exact⟨.str_int _ _ _ _,.str_int _ _ _ _,.str_int _ _ _ _⟩
  |str j=>cases zj ry;obtain⟨t,rfl⟩:=rw';cases e;exact⟨.str_str _ _ _ _,.str_str _ _ _ _,.str_str _ _ _ _⟩
  |_=>cases e
 |_=>cases y<;>cases e
theorem K8{φ:List Addr}{x y w:V}{b:Bool}(e:eqF x y=some b)(rx:rv φ x w)(ry:rv φ y w):b=true:=by
 cases x with
 |non=>cases zW rx;cases y<;>first|exact False.elim ry|(cases e;rfl)|cases e
 |bl i=>cases zd rx;cases y<;>first|exact False.elim ry|(rename_i j;cases (show j=i from ry);cases e;simp)|cases e
 |int i=>cases qC rx;cases y<;>first|exact False.elim ry|(rename_i j;cases (show j=i from ry);cases e;simp)|cases e
 |str i=>cases zj rx;cases y<;>first|exact False.elim ry|(rename_i j;cases (show j=i from ry);cases e;simp)|cases e
 |_=>cases y<;>cases e
theorem Qu{f:V->V->Option Bool}:∀{xs ys:List V}{bs:List Bool},ZX f xs ys=some bs->bs.length=xs.length/\ys.length=xs.length/\∀(j:Nat) x y,xs[j]?=some x->ys[j]?=some y->∃b,bs[j]?=some b/\f x y=some b
 | [],[],bs,e=>by
  cases e;exact⟨rfl,rfl,λj x y h=>by simp at h⟩
 | [],_::_,_,e=>by cases e
 |_::_,[],_,e=>by cases e
 |x::xs,y::ys,bs,e=>by
  unfold ZX at e;split at e
  ·rename_i b bs' e1 e2;cases e;obtain⟨l1,l2,k⟩:=Qu e2;refine⟨by simp[l1],by simp[l2],λj u v h1 h2=>?_⟩;cases j with
   |zero=>simp at h1 h2;subst h1 h2;exact⟨b,rfl,e1⟩
   |succ j=>obtain⟨b',h3,h4⟩:=k j u v (by simpa using h1) (by simpa using h2);exact⟨b',by simpa using h3,h4⟩
  ·cases e
theorem Ji(bs:List Bool):(List.range bs.length).all (λj=>bs.getD j true)=bs.all id:=by
 rw[wm];simp only[wU,wY,id];constructor
 ·intro h b hb;obtain⟨j,hj,rfl⟩:=vw.mp hb;have:=h j hj;rw[wa,wE hj]at this;exact this
 ·intro h j hj;rw[wa,wE hj];exact h _ (List.getElem_mem hj)
section
variable{X:Cx}{G φ:List Addr}{h:AH}{H:Hp}{pins:List (Addr×Obj)}{σ:_L.St}{s:Shared}
theorem N3(I:Inv X pins σ H s)(R:Rl X.K G φ h H):∀(n:Nat){x y w:V}{b:Bool},eqD h n x y=some b->rv φ x w->rv φ y w->b=true
 | 0,x,y,w,b,e,rx,ry=>K8 e rx ry
 |n+1,x,y,w,b,e,rx,ry=>by
  have all:∀{xs ys zs:List V}{bs:List Bool},rvs φ xs zs->rvs φ ys zs->ZX (eqD h n) xs ys=some bs->bs.all id=true:=λ{xs ys zs bs} r1 r2 e=>by
   obtain⟨l1,l2,k⟩:=Qu e;rw[wU];intro b hb;obtain⟨j,hj,rfl⟩:=vw.mp hb;have hx:j<xs.length:=by omega
   have hy:j<ys.length:=by omega
   obtain⟨b',hb',e'⟩:=k j _ _ (wE hx) (wE hy);rw[wE hj]at hb';cases hb';obtain⟨z,hz,q1⟩:=qH r1 (wE hx);obtain⟨z',hz',q2⟩:=qH r2 (wE hy);rw[hz]at hz';cases hz';exact N3 I R n e' q1 q2
  cases x with
  |ref a=>
   obtain⟨p,rfl,hp⟩:=qJ rx;cases y with
   |ref c=>
    have hc:φ[c]?=some p:=ry;simp only[eqD]at e;split at e
    ·rename_i f1 xs f2 ys e1 e2;split at e
     ·cases e;rfl
     ·obtain⟨p1,z1,q1,s1,r1⟩:=R.lst (i:=a) (xs:=xs) (by unfold qL;rw[e1]);obtain⟨p2,z2,q2,s2,r2⟩:=R.lst (i:=c) (xs:=ys) (by unfold qL;rw[e2]);rw[hp]at q1;cases q1;rw[hc]at q2;cases q2;have:=I.list_inj s1 s2;subst this;split at e
      ·obtain⟨bs,e3,rfl⟩:=wA.mp e;exact all r1 r2 e3
      ·rename_i hne;exact absurd ((Paired.length r1).trans (Paired.length r2).symm) hne
    ·rename_i xs ys e1 e2;split at e
     ·cases e;rfl
     ·obtain⟨p1,z1,q1,s1,r1⟩:=R.tup (i:=a) (xs:=xs) (by unfold qg;rw[e1]);obtain⟨p2,z2,q2,s2,r2⟩:=R.tup (i:=c) (xs:=ys) (by unfold qg;rw[e2]);rw[hp]at q1;cases q1;rw[hc]at q2;cases q2;have:=I.tuple_inj s1 s2;subst this;split at e
      ·obtain⟨bs,e3,rfl⟩:=wA.mp e;exact all r1 r2 e3
      ·rename_i hne;exact absurd ((Paired.length r1).trans (Paired.length r2).symm) hne
    ·rename_i f1 xs ys e1 e2;obtain⟨p1,z1,q1,s1,r1⟩:=R.lst (i:=a) (xs:=xs) (by unfold qL;rw[e1]);obtain⟨p2,z2,q2,s2,r2⟩:=R.tup (i:=c) (xs:=ys) (by unfold qg;rw[e2]);rw[hp]at q1;cases q1;rw[hc]at q2;cases q2;obtain⟨i1,_,t1,_⟩:=I.list s1;obtain⟨i2,_,t2,_⟩:=I.tuple s2;exact absurd rfl (ne_of_list_tuple t1.isList t2)
    ·rename_i xs f1 ys e1 e2;obtain⟨p1,z1,q1,s1,r1⟩:=R.tup (i:=a) (xs:=xs) (by unfold qg;rw[e1]);obtain⟨p2,z2,q2,s2,r2⟩:=R.lst (i:=c) (xs:=ys) (by unfold qL;rw[e2]);rw[hp]at q1;cases q1;rw[hc]at q2;cases q2;obtain⟨i1,_,t1,_⟩:=I.tuple s1;obtain⟨i2,_,t2,_⟩:=I.list s2;exact absurd rfl (ne_of_list_tuple t2.isList t1)
    ·cases e
   |_=>exact False.elim ry
  |_=>
   cases y with
   |ref c=>
    obtain⟨p,rfl,hp⟩:=qJ ry;exact False.elim rx
   |_=>exact K8 e rx ry
theorem T3(I:Inv X pins σ H s)(R:Rl X.K G φ h H):∀(n:Nat){A:Around}{x y xc yc:V}{u w:Value}{b:Bool},A.units+n<cLine->eqD h n x y=some b->rv φ x xc->rv φ y yc->RelV xc u->RelV yc w->Eq3 A s u w b
 | 0,A,x,y,xc,yc,u,w,b,hu,e,rx,ry,ru,rw'=>Js e rx ry ru rw'
 |n+1,A,x,y,xc,yc,u,w,b,hu,e,rx,ry,ru,rw'=>by
  have hu0:A.units<cLine:=by omega
  have hu1:A.in1.units+n<cLine:=by show A.units+1+n<cLine;omega
  have item:∀{xs ys zs ts:List V}{us ws:List Value}{bs:List Bool},rvs φ xs zs->rvs φ ys ts->Vals zs us->Vals ts ws->ZX (eqD h n) xs ys=some bs->us.length=bs.length/\ws.length=bs.length/\
    ∀(j:Nat) (h1:j<us.toArray.size) (h2:j<ws.toArray.size),EqAt A.in1 s us.toArray[j] ws.toArray[j] (bs.getD j true):=λ{xs ys zs ts us ws bs} r1 r2 v1 v2 e=>by
   obtain⟨l1,l2,k⟩:=Qu e;have n1:=Paired.length r1;have n2:=Paired.length r2;have n3:=v1.length;have n4:=v2.length;refine⟨by omega,by omega,λj h1 h2=>?_⟩;have g1:j<us.length:=by simpa using h1
   have g2:j<ws.length:=by simpa using h2
   have hx:j<xs.length:=by omega
   have hy:j<ys.length:=by omega
   obtain⟨b',hb',e'⟩:=k j _ _ (wE hx) (wE hy);obtain⟨z,hz,q1⟩:=qH r1 (wE hx);obtain⟨t,ht,q2⟩:=qH r2 (wE hy);obtain⟨u',hu',q3⟩:=v1.get hz;obtain⟨w',hw',q4⟩:=v2.get ht;rw[wE g1]at hu';rw[wE g2]at hw';cases hu';cases hw';rw[wa,hb'];have:=(T3 I R n (A:=A.in1) hu1 e' q1 q2 q3 q4).eq;simpa using this
  have refs:∀{a:Nat}{p:Addr}{v:V}{b:Bool},φ[a]?=some p->(if (items h a).isSome&&flat v then some false else none)=some b->b=false/\∃its,s.heap.IsList p its\/s.heap.IsTuple p its:=λ{a p v b} hp e=>by
   cases ea:h[a]? with
   |none=>rw[show items h a=none from(by unfold items;rw[ea])]at e;cases e
   |some o=>
    have hb:b=false:=by
     split at e
     ·cases e;rfl
     ·cases e
    refine⟨hb,?_⟩;cases o with
    |lst f xs=>
     obtain⟨p1,z1,q1,s1,r1⟩:=R.lst (i:=a) (xs:=xs) (by unfold qL;rw[ea]);rw[hp]at q1;cases q1;obtain⟨i1,_,t1,_⟩:=I.list s1;exact⟨_,.inl t1.isList⟩
    |tup xs=>
     obtain⟨p1,z1,q1,s1,r1⟩:=R.tup (i:=a) (xs:=xs) (by unfold qg;rw[ea]);rw[hp]at q1;cases q1;obtain⟨i1,_,t1,_⟩:=I.tuple s1;exact⟨_,.inr t1⟩
    |ob ks=>rw[show items h a=none from(by unfold items;rw[ea])]at e;cases e
  cases x with
  |ref a=>
   obtain⟨p,rfl,hp⟩:=qJ rx;cases ru;cases y with
   |ref c=>
    obtain⟨q,rfl,hq⟩:=qJ ry;cases rw';have same:p=q->b=true:=λz=>by
     subst z;exact N3 I R (n+1) e rx (show rv φ (.ref c) (.ref p) from hq)
    simp only[eqD]at e;split at e
    ·rename_i f1 xs f2 ys e1 e2;obtain⟨p1,z1,q1,s1,r1⟩:=R.lst (i:=a) (xs:=xs) (by unfold qL;rw[e1]);obtain⟨p2,z2,q2,s2,r2⟩:=R.lst (i:=c) (xs:=ys) (by unfold qL;rw[e2]);rw[hp]at q1;cases q1;rw[hq]at q2;cases q2;obtain⟨i1,v1,t1,_⟩:=I.list s1;obtain⟨i2,v2,t2,_⟩:=I.list s2;split at e
     ·rename_i hac;subst hac;rw[hp]at hq;cases hq;cases e;have rc:=RcAt.lists (A:=A) (e:=λ_=>true) t1.isList t1.isList rfl hu0 λj _ _=>EqAt.same _;have ne:=RcNeAt.lists (A:=A) (e:=λ_=>true) t1.isList t1.isList rfl hu0 λj _ _=>EqAt.same _;have al:∀l:List Nat,(l.all λ_=>true)=true:=λl=>by simp
      rw[al]at rc ne;exact⟨.same _,rc,ne⟩
     ·split at e
      ·obtain⟨bs,e3,rfl⟩:=wA.mp e;obtain⟨m1,m2,he⟩:=item r1 r2 v1 v2 e3;have hsz:i1.toArray.size=i2.toArray.size:=by simp;omega
       have rc:=RcAt.lists (A:=A) (e:=λj=>bs.getD j true) t1.isList t2.isList hsz hu0 he;have ne:=RcNeAt.lists (A:=A) (e:=λj=>bs.getD j true) t1.isList t2.isList hsz hu0 he;have sz:i1.toArray.size=bs.length:=by simpa using m1
       rw[sz,Ji]at rc ne;refine⟨?_,rc,ne⟩;by_cases hpq:p=q
       ·rw[same hpq];subst hpq;exact .same _
       ·exact .of_refs hpq rc
      ·rename_i hl;cases e;have n1:=Paired.length r1;have n2:=Paired.length r2;have n3:=v1.length;have n4:=v2.length;have hsz:(i1.toArray.size != i2.toArray.size)=true:=by simp;omega
       have rc:=RcAt.lists_lengths (A:=A) t1.isList t2.isList hsz hu0;have ne:=RcNeAt.lists_lengths (A:=A) t1.isList t2.isList hsz hu0;refine⟨?_,rc,ne⟩;by_cases hpq:p=q
       ·exact absurd (same hpq) (by decide)
       ·exact .of_refs hpq rc
    ·rename_i xs ys e1 e2;obtain⟨p1,z1,q1,s1,r1⟩:=R.tup (i:=a) (xs:=xs) (by unfold qg;rw[e1]);obtain⟨p2,z2,q2,s2,r2⟩:=R.tup (i:=c) (xs:=ys) (by unfold qg;rw[e2]);rw[hp]at q1;cases q1;rw[hq]at q2;cases q2;obtain⟨i1,v1,t1,_⟩:=I.tuple s1;obtain⟨i2,v2,t2,_⟩:=I.tuple s2;have t1':s.heap.IsTuple p i1.toArray:=t1;have t2':s.heap.IsTuple q i2.toArray:=t2;split at e
     ·rename_i hac;subst hac;rw[hp]at hq;cases hq;cases e;have rc:=RcAt.tuples (A:=A) (e:=λ_=>true) t1' t1' hu0 λj _ _=>EqAt.same _;have ne:=RcNeAt.tuples (A:=A) (e:=λ_=>true) t1' t1' hu0 λj _ _=>EqAt.same _;have al:∀l:List Nat,(l.all λ_=>true)=true:=λl=>by simp
      rw[al]at rc ne;simp only[uK,Bool.and_self]at rc ne;exact⟨.same _,rc,ne⟩
     ·split at e
      ·obtain⟨bs,e3,rfl⟩:=wA.mp e;obtain⟨m1,m2,he⟩:=item r1 r2 v1 v2 e3;have hsz:i1.toArray.size=i2.toArray.size:=by simp;omega
       have rc:=RcAt.tuples (A:=A) (e:=λj=>bs.getD j true) t1' t2' hu0 he;have ne:=RcNeAt.tuples (A:=A) (e:=λj=>bs.getD j true) t1' t2' hu0 he;have sz:i1.toArray.size=bs.length:=by simpa using m1
       have sz2:i2.toArray.size=bs.length:=by simpa using m2
       rw[sz,sz2,Nat.min_self,Ji,uK,vY]at rc ne;refine⟨?_,rc,ne⟩;by_cases hpq:p=q
       ·rw[same hpq];subst hpq;exact .same _
       ·exact .of_refs hpq rc
      ·rename_i hl;have n1:=Paired.length r1;have n2:=Paired.length r2;have n3:=v1.length;have n4:=v2.length;obtain⟨bs,e3,hb⟩:=wA.mp e;subst hb;have hsz:(i1.toArray.size==i2.toArray.size)=false:=by simp;omega
       obtain⟨m1,m2,he⟩:=item (zu ys.length r1) (zu xs.length r2) (v1.take ys.length) (v2.take xs.length) e3;have he':∀(j:Nat) (h1:j<i1.toArray.size) (h2:j<i2.toArray.size),EqAt A.in1 s i1.toArray[j] i2.toArray[j] (bs.getD j true):=λj h1 h2=>by
        have g1:j<i1.length:=by simpa using h1
        have g2:j<i2.length:=by simpa using h2
        have:=he j (by simp;omega) (by simp;omega);simpa using this
       have rc:=RcAt.tuples (A:=A) (e:=λj=>bs.getD j true) t1' t2' hu0 he';have ne:=RcNeAt.tuples (A:=A) (e:=λj=>bs.getD j true) t1' t2' hu0 he';rw[hsz,Bool.and_false]at rc ne;refine⟨?_,rc,ne⟩;by_cases hpq:p=q
       ·exact absurd (same hpq) (by decide)
       ·exact .of_refs hpq rc
    ·rename_i f1 xs ys e1 e2;cases e;obtain⟨p1,z1,q1,s1,r1⟩:=R.lst (i:=a) (xs:=xs) (by unfold qL;rw[e1]);obtain⟨p2,z2,q2,s2,r2⟩:=R.tup (i:=c) (xs:=ys) (by unfold qg;rw[e2]);rw[hp]at q1;cases q1;rw[hq]at q2;cases q2;obtain⟨i1,_,t1,_⟩:=I.list s1;obtain⟨i2,_,t2,_⟩:=I.tuple s2;exact⟨.list_tuple t1.isList t2 hu0,.list_tuple t1.isList t2 hu0,.list_tuple t1.isList t2 hu0⟩
    ·rename_i xs f1 ys e1 e2;cases e;obtain⟨p1,z1,q1,s1,r1⟩:=R.tup (i:=a) (xs:=xs) (by unfold qg;rw[e1]);obtain⟨p2,z2,q2,s2,r2⟩:=R.lst (i:=c) (xs:=ys) (by unfold qL;rw[e2]);rw[hp]at q1;cases q1;rw[hq]at q2;cases q2;obtain⟨i1,_,t1,_⟩:=I.tuple s1;obtain⟨i2,_,t2,_⟩:=I.list s2;exact⟨.tuple_list t1 t2.isList hu0,.tuple_list t1 t2.isList hu0,.tuple_list t1 t2.isList hu0⟩
    ·cases e
   |non=>
    cases zW ry;cases rw';rcases refs hp (show (if (items h a).isSome&&flat V.non then some false else none)=some b from e) with⟨rfl,its,t|t⟩
    ·exact⟨.list_none t hu0,.list_none t hu0,.list_none t hu0⟩
    ·exact⟨.tuple_none t hu0,.tuple_none t hu0,.tuple_none t hu0⟩
   |bl j=>
    cases zd ry;cases rw';rcases refs hp (show (if (items h a).isSome&&flat (V.bl j) then some false else none)=some b from e) with⟨rfl,its,t|t⟩
    ·exact⟨.list_bool _ t hu0,.list_bool _ t hu0,.list_bool _ t hu0⟩
    ·exact⟨.tuple_bool _ t hu0,.tuple_bool _ t hu0,.tuple_bool _ t hu0⟩
   |int j=>
    cases qC ry;obtain⟨t',rfl⟩:=rw';rcases refs hp (show (if (items h a).isSome&&flat (V.int j) then some false else none)=some b from e) with⟨rfl,its,t|t⟩
    ·exact⟨.list_int _ _ t hu0,.list_int _ _ t hu0,.list_int _ _ t hu0⟩
    ·exact⟨.tuple_int _ _ t hu0,.tuple_int _ _ t hu0,.tuple_int _ _ t hu0⟩
   |str j=>
    cases zj ry;obtain⟨t',rfl⟩:=rw';rcases refs hp (show (if (items h a).isSome&&flat (V.str j) then some false else none)=some b from e) with⟨rfl,its,t|t⟩
    ·exact⟨.list_str _ _ t hu0,.list_str _ _ t hu0,.list_str _ _ t hu0⟩
    ·exact⟨.tuple_str _ _ t hu0,.tuple_str _ _ t hu0,.tuple_str _ _ t hu0⟩
   |_=>exact False.elim ry
  |non=>
   cases y with
   |ref c=>
    obtain⟨p,rfl,hp⟩:=qJ ry;cases rw';cases zW rx;cases ru;rcases refs hp (show (if (items h c).isSome&&flat V.non then some false else none)=some b from(Bool.and_comm _ _) ▸ e) with⟨rfl,its,t|t⟩
    ·exact⟨.none_list t hu0,.none_list t hu0,.none_list t hu0⟩
    ·exact⟨.none_tuple t hu0,.none_tuple t hu0,.none_tuple t hu0⟩
   |_=>exact Js e rx ry ru rw'
  |bl i=>
   cases y with
   |ref c=>
    obtain⟨p,rfl,hp⟩:=qJ ry;cases rw';cases zd rx;cases ru;rcases refs hp (show (if (items h c).isSome&&flat (V.bl i) then some false else none)=some b from(Bool.and_comm _ _) ▸ e) with⟨rfl,its,t|t⟩
    ·exact⟨.bool_list _ t hu0,.bool_list _ t hu0,.bool_list _ t hu0⟩
    ·exact⟨.bool_tuple _ t hu0,.bool_tuple _ t hu0,.bool_tuple _ t hu0⟩
   |_=>exact Js e rx ry ru rw'
  |int i=>
   cases y with
   |ref c=>
    obtain⟨p,rfl,hp⟩:=qJ ry;cases rw';cases qC rx;obtain⟨t',rfl⟩:=ru;rcases refs hp (show (if (items h c).isSome&&flat (V.int i) then some false else none)=some b from(Bool.and_comm _ _) ▸ e) with⟨rfl,its,t|t⟩
    ·exact⟨.int_list _ _ t hu0,.int_list _ _ t hu0,.int_list _ _ t hu0⟩
    ·exact⟨.int_tuple _ _ t hu0,.int_tuple _ _ t hu0,.int_tuple _ _ t hu0⟩
   |_=>exact Js e rx ry ru rw'
  |str i=>
   cases y with
   |ref c=>
    obtain⟨p,rfl,hp⟩:=qJ ry;cases rw';cases zj rx;obtain⟨t',rfl⟩:=ru;rcases refs hp (show (if (items h c).isSome&&flat (V.str i) then some false else none)=some b from(Bool.and_comm _ _) ▸ e) with⟨rfl,its,t|t⟩
    ·exact⟨.str_list _ _ t hu0,.str_list _ _ t hu0,.str_list _ _ t hu0⟩
    ·exact⟨.str_tuple _ _ t hu0,.str_tuple _ _ t hu0,.str_tuple _ _ t hu0⟩
   |_=>exact Js e rx ry ru rw'
  |_=>cases xc<;>exact False.elim rx
end
theorem D5{φ:List Addr}:∀{x w:V},flat x=true->rv φ x w->w=x
 | .non,_,_,h=>zW h
 | .bl _,_,_,h=>zd h
 | .int _,_,_,h=>qC h
 | .str _,_,_,h=>zj h
 | .ref _,_,f,_=>by cases f
 | .byt _,_,f,_=>by cases f
 | .flt _,_,f,_=>by cases f
 | .ty _,_,f,_=>by cases f
theorem jO{φ:List Addr}:∀{xs ws:List V},xs.all flat=true->rvs φ xs ws->ws=xs
 |_,_,_,.nil=>rfl
 |x::xs,w::ws,f,.cons r t=>by
  simp only[List.all_cons,wC]at f;rw[D5 f.1 r,jO f.2 t]
theorem M9:∀x:V,_L.flatV x=flat x:=by intro x;cases x<;>rfl
theorem f7(xs:List V):xs.all _L.flatV=xs.all flat:=by
 induction xs with
 |nil=>rfl
 |cons x xs ih=>rw[List.all_cons,List.all_cons,ih,M9]
section
variable{X:Cx}{G:List Addr}{F:Nat->List V->AH->RV}
noncomputable def opC:COp->CmpOp
 | .lt=>.Lt | .le=>.LtE | .gt=>.Gt | .ge=>.GtE | .eq=>.Eq | .ne=>.NotEq | .inn=>.In | .notin=>.NotIn | .is=>.Is | .isnot=>.IsNot
variable (X G) in
noncomputable def qCc(op:COp):R2:=λx y H Q=>∃φ h xa ya b,Rl X.K G φ h H/\rv φ xa x/\rv φ ya y/\Q5 op xa ya h=some b/\Q (.bl b) H
theorem N4{φ:List Addr}{x y:V}(r:rv φ x y):decide (x=V.non)=decide (y=V.non):=by
 by_cases hx:x=V.non
 ·subst hx;cases zW r;rfl
 ·have hy:y≠V.non:=λhy=>by subst hy;cases x<;>first|exact hx rfl|exact False.elim r
  rw[uF hx,uF hy]
theorem D6(kvs:List (Int×V))(i:Int):((kvs.map kk).any λkv=>decide (kv.1=Sum.inl i))=qC5 kvs i:=by
 unfold qC5;rw[List.any_map];congr 1
 funext p
 show decide ((Sum.inl p.1:_L.Key)=Sum.inl i)=_;rw[wm];simp
theorem qC0(kvs:List (Int×V))(i:Int)(v:V):_L.putK (kvs.map kk) (Sum.inl i:_L.Key) v=(qGQ kvs i v).map kk:=by
 unfold _L.putK qGQ;rw[D6];split
 ·rw[wx,wx];congr 1
  funext p
  show (if (Sum.inl p.1:_L.Key)=Sum.inl i then ((Sum.inl p.1:_L.Key),v) else kk p)=kk (if p.1=i then (p.1,v) else p);by_cases h:p.1=i
  ·rw[if_pos (by rw[h]),if_pos h];rfl
  ·rw[if_neg (λz=>h (Sum.inl.inj z)),if_neg h]
 ·rw[wy];rfl
theorem zY(hu:X.A.units+8<cLine):∀op,OpR X (compareOp (opC op)) (qCc X G op):=by
 intro op pins s σ H x y v u Q I rx ry ⟨φ,h,xa,ya,b,R,r1,r2,e,q⟩;have hin:∀(neg:Bool){p:Nat}{ya':V}(e:(match items h p with|some xs=>if flat xa&&xs.all flat then some (if neg then !(xs.any λy=>_L.eqV y xa) else xs.any λy=>_L.eqV y xa) else none|none=>none)=some b),rv φ (.ref p) y->_L.rIn X.K neg x y H Q:=by
  intro neg p ya' e r2;split at e
  ·rename_i xs ex;split at e
   ·rename_i hf;simp only[wC]at hf;obtain⟨a,ys,ha,hs,rs⟩:=R.its ex;obtain⟨a',rfl,ha'⟩:=qJ r2;rw[ha]at ha';cases ha';have e1:=D5 hf.1 r1;have e2:=jO hf.2 rs;subst e1 e2;refine⟨a,ys,rfl,hs,by rw[M9];exact hf.1,by rw[f7];exact hf.2,?_⟩;cases e;exact q
   ·cases e
  ·cases e
 cases op with
 |lt=>
  replace e:=Qk e;obtain⟨i,j,rfl,rfl,rfl⟩:=e;cases qC r1;cases qC r2;exact _L.op_lt pins s σ H _ _ v u Q I rx ry ⟨_,_,rfl,rfl,q⟩
 |le=>
  replace e:=Qk e;obtain⟨i,j,rfl,rfl,rfl⟩:=e;cases qC r1;cases qC r2;exact _L.op_le pins s σ H _ _ v u Q I rx ry ⟨_,_,rfl,rfl,q⟩
 |gt=>
  replace e:=Qk e;obtain⟨i,j,rfl,rfl,rfl⟩:=e;cases qC r1;cases qC r2;exact _L.op_gt pins s σ H _ _ v u Q I rx ry ⟨_,_,rfl,rfl,q⟩
 |ge=>
  replace e:=Qk e;obtain⟨i,j,rfl,rfl,rfl⟩:=e;cases qC r1;cases qC r2;exact _L.op_ge pins s σ H _ _ v u Q I rx ry ⟨_,_,rfl,rfl,q⟩
 |eq=>exact(T3 I R 4 (by omega) (show eqD h 4 xa ya=some b from e) r1 r2 rx ry).rc _ _ _ _ ⟨.bl b,H,I,rfl,q⟩
 |ne=>
  have e':(eqD h 4 xa ya).map (!·)=some b:=e;obtain⟨c,e1,rfl⟩:=wA.mp e';exact(T3 I R 4 (by omega) e1 r1 r2 rx ry).ne _ _ _ _ ⟨.bl (!c),H,I,rfl,q⟩
 |inn=>
  replace e:=I0 e;obtain⟨p,rfl,e⟩:=e;cases ei:items h p with
  |some xs=>exact _L.op_in_seq pins s σ H x y v u Q I rx ry (hin false (ya':=.non) (by rw[ei]at e ⊢;exact e) r2)
  |none=>
   rw[ei]at e;dsimp only at e;split at e
   ·rename_i kvs ed;split at e
    ·rename_i i;cases e;obtain⟨a,ea,_,hH⟩:=R.dct ed;obtain⟨a',rfl,ha'⟩:=qJ r2;rw[ea]at ha';cases ha';cases qC r1;cases ry;refine _L.d_in (by omega) I (_L.DGet.k (k:=.inl i) hH) rx λs' I'=>⟨.bl (_L.valV (kvs.map kk) (Sum.inl i)).isSome,H,I',rfl,?_⟩
     rw[<-_L.valV_any,D6];exact q
    ·cases e
   ·cases e
 |notin=>
  replace e:=I0 e;obtain⟨p,rfl,e⟩:=e;cases ei:items h p with
  |some xs=>exact _L.op_notIn_seq pins s σ H x y v u Q I rx ry (hin true (ya':=.non) (by rw[ei]at e ⊢;exact e) r2)
  |none=>
   rw[ei]at e;dsimp only at e;split at e
   ·rename_i kvs ed;split at e
    ·rename_i i;cases e;obtain⟨a,ea,_,hH⟩:=R.dct ed;obtain⟨a',rfl,ha'⟩:=qJ r2;rw[ea]at ha';cases ha';cases qC r1;cases ry;refine _L.d_notIn (by omega) I (_L.DGet.k (k:=.inl i) hH) rx λs' I'=>⟨.bl (!(_L.valV (kvs.map kk) (Sum.inl i)).isSome),H,I',rfl,?_⟩
     rw[<-_L.valV_any,D6];exact q
    ·cases e
   ·cases e
 |is=>
  rcases j7 (show isC xa ya id=some b from e) with⟨rfl,rfl⟩|⟨c,d,rfl,rfl,rfl⟩
  ·cases zW r2;rw[N4 r1]at q;exact _L.op_isN pins s σ H x _ v u Q I rx ry ⟨rfl,q⟩
  ·cases zd r1;cases zd r2;cases (show v=Value.bool c from rx);cases (show u=Value.bool d from ry);exact PySem.wpAny_is_plain rfl ⟨.bl (c==d),H,I,(by cases c<;>cases d<;>rfl),q⟩
 |isnot=>
  rcases j7 (show isC xa ya (!·)=some b from e) with⟨rfl,rfl⟩|⟨c,d,rfl,rfl,rfl⟩
  ·cases zW r2;rw[N4 r1]at q;exact _L.op_notN pins s σ H x _ v u Q I rx ry ⟨rfl,q⟩
  ·cases zd r1;cases zd r2;cases (show v=Value.bool c from rx);cases (show u=Value.bool d from ry);exact PySem.wpAny_isNot_plain rfl ⟨.bl (!(c==d)),H,I,(by cases c<;>cases d<;>rfl),q⟩
theorem N1:∀{bs:List Bool}{us:List Value},Vals (bs.map V.bl) us->LSm.BoolsAre us bs
 | [],_,.nil=>.nil
 |b::bs,u::us,.cons r t=>by
  cases (show u=Value.bool b from r);exact .cons b (N1 t)
theorem P0{A:Around}{E:Value->Shared->Prop}{prog:Program}{w:World}{s:Shared}{l:Addr}{vs:List Value}{bs:List Bool}{Q:Value->Shared->Prop}(hh:A.handled=none)(hl:s.heap.IsList l vs.toArray)(hb:LSm.BoolsAre vs bs)
  (h:∀h' tk,(∀b x,s.heap.get? b=some x->h'.get? b=some x)->Q (.bool (bs.all id)) { s with heap:=h',toks:=tk }):wpAny (model prog w) A (call (.builtin "all") [.ref l]) Q E s:=by
 have hlt:l<s.heap.objs.size:=by obtain⟨_,e,_⟩:=hl;exact Heap.lt_size e
 refine call_all_walk (wpAny_pyIter_list hl ?_);refine⟨s.heap.objs.size,[s.heap.objs.size,l],[s.heap.objs.size],vs.toArray.size,_,_,λi=>(bs[i]?).getD true,rfl,Walks.list (A:=A.in1) hh _ l (wX hlt) vs.toArray,
  ⟨⟨_,Heap.get?_push_size _ rfl,rfl,rfl⟩,hl.push _⟩,λi v s' Q' E' hP hQ=>?_,λh' tk hk=>?_⟩
 ·obtain⟨b,e,rfl⟩:=hb.get i v (by simpa using hP);simp only[e,Option.getD_some]at hQ;exact uJ hQ
 ·have e:((List.range vs.toArray.size).all λi=>(bs[i]?).getD true)=bs.all id:=by
   rw[wK,hb.length];exact LSm.range_all bs
  rw[e];exact h h' tk (LSm.kept_iter hk)
theorem D9{A:Around}{E:Value->Shared->Prop}{prog:Program}{w:World}{s:Shared}{l:Addr}{vs:List Value}{ns:List Int}{M:Int}{Q:Value->Shared->Prop}(hh:A.handled=none)(hl:s.heap.IsList l vs.toArray)(hi:IntsAre vs ns)(hM:Y5 ns=some M)
  (h:∀h' tk (t:Tok),(∀b x,s.heap.get? b=some x->h'.get? b=some x)->Q (.int M t) { s with heap:=h',toks:=tk }):wpAny (model prog w) A (call (.builtin "max") [.ref l]) Q E s:=by
 obtain⟨m1,m2⟩:=B7 hM;obtain⟨xs,e⟩:=hi.allInts.items;have hns:ns=xs.toList.map (·.1):=by rw[<-hi.numsOf,<-nums_intItems,<-e]
 have hsz:0<xs.size:=by
  have h3:=List.length_pos_of_mem m1;rw[hns,wZ,vD]at h3;exact h3
 rw[e]at hl;refine max_intList hh hl hsz λv h' tk hv hk=>?_;obtain⟨t,rfl⟩:=intItems_at hv;obtain⟨h1,h2⟩:=argBest_gt (numAt xs) (xs.size-1);have e1:numAt xs (argBest (λi j=>decide (numAt xs i>numAt xs j)) (xs.size-1))=M:=by
  refine Int.le_antisymm (m2 _ ?_) ?_
  ·rw[hns,numAt_eq];exact getD_mem (by rw[wZ,vD];omega)
  ·have ha:=m1;rw[hns]at ha;obtain⟨j,hj,e2⟩:=mem_getD ha;rw[wZ,vD]at hj;rw[<-e2,<-numAt_eq];exact h2 j (by omega)
 rw[e1];exact h h' tk t hk
theorem D7:∀{xs:List V}{is:List Int}{us:List Value},jH xs=some is->Vals xs us->us.length=is.length/\∀i v,us[i]?=some v->NumOf (is.getD i 0) v
 | [],is,_,e,.nil=>by cases e;exact⟨rfl,λi v e=>by simp at e⟩
 |x::r,is,u::us,e,.cons a t=>by
  unfold jH at e;split at e
  ·rename_i e';cases e'
  ·rename_i e';cases e';obtain⟨js,e1,rfl⟩:=wA.mp e;obtain⟨l,g⟩:=D7 e1 t;refine⟨by simp[l],λi v q=>?_⟩;cases i with
   |zero=>
    cases q;obtain⟨w,rfl⟩:=a;exact .inl ⟨w,rfl⟩
   |succ i=>exact g i v q
  ·rename_i e';cases e';obtain⟨js,e1,rfl⟩:=wA.mp e;obtain⟨l,g⟩:=D7 e1 t;refine⟨by simp[l],λi v q=>?_⟩;cases i with
   |zero=>
    cases q;exact .inr ⟨_,a,rfl⟩
   |succ i=>exact g i v q
  ·cases e
theorem ZP:∀{xs:List V}{is:List Int},jH xs=some is->xs.all flat=true
 | [],_,_=>rfl
 |x::r,is,e=>by
  unfold jH at e;split at e
  ·rename_i e';cases e'
  ·rename_i e';cases e';obtain⟨js,e1,rfl⟩:=wA.mp e;rw[List.all_cons,ZP e1];rfl
  ·rename_i e';cases e';obtain⟨js,e1,rfl⟩:=wA.mp e;rw[List.all_cons,ZP e1];rfl
  ·cases e
theorem O5{A:Around}{E:Value->Shared->Prop}{prog:Program}{w:World}{s:Shared}{l:Addr}{vs:List Value}{xs:List V}{is:List Int}{Q:Value->Shared->Prop}(hh:A.handled=none)(hl:s.heap.IsList l vs.toArray)(ei:jH xs=some is)(hb:Vals xs vs)
  (h:∀h' tk t',(∀b x,s.heap.get? b=some x->h'.get? b=some x)->Q (.int is.sum t') { s with heap:=h',toks:=tk }):wpAny (model prog w) A (call (.builtin "sum") [.ref l]) Q E s:=by
 have hlt:l<s.heap.objs.size:=by obtain⟨_,e,_⟩:=hl;exact Heap.lt_size e
 obtain⟨hlen,hn⟩:=D7 ei hb;refine call_sum_walkAnyB (wpAny_pyIter_list hl ?_);refine⟨s.heap.objs.size,_,_,_,_,_,_,λi=>is.getD i 0,rfl,(Walks.list (prog:=prog) (w:=w) (A:=A.in1) hh s.heap.objs.size l (wX hlt) vs.toArray).toS,
  ⟨⟨_,Heap.get?_push_size _ rfl,rfl,rfl⟩,hl.push _⟩,λb hb=>?_,λi v hP=>hn i v (by simpa using hP),λs' t' hm=>?_⟩
 ·rcases wL.mp hb with rfl|hb
  ·exact Heap.lt_size (Heap.get?_push_size _ rfl)
  ·obtain rfl:=wo.mp hb;obtain⟨_,e,_⟩:=hl;exact Heap.lt_size (Heap.get?_push_of_some _ e)
 ·obtain⟨h',g',d',tk',os'⟩:=s';have e1:g'=s.gens:=hm.gens;have e2:d'=s.drawn:=hm.drawn;have e3:os'=s.os:=hm.os;subst e1 e2 e3;have e:=preSum_getD is vs.toArray.size;rw[wK,hlen,List.take_of_length_le (wF _),<-hlen,<-wK]at e;rw[e];exact h h' tk' t' λb o e=>hm.heap b o (λhb=>absurd (Heap.lt_size e) ((wo.mp hb) ▸ wl _)) (Heap.get?_push_of_some _ e)
theorem jT:∀{xs:List V}{is:List Int},jB xs=some is->xs=is.map V.int
 | [],is,e=>by cases e;rfl
 | .int i::r,is,e=>by
  simp only[jB]at e;obtain⟨js,e1,rfl⟩:=wA.mp e;rw[jT e1];rfl
 | .non::_,_,e=>by cases e
 | .bl _::_,_,e=>by cases e
 | .str _::_,_,e=>by cases e
 | .ref _::_,_,e=>by cases e
 | .byt _::_,_,e=>by cases e
 | .flt _::_,_,e=>by cases e
 | .ty _::_,_,e=>by cases e
theorem Qo:∀{xs:List V}{is:List Bool},QO xs=some is->xs=is.map V.bl
 | [],is,e=>by cases e;rfl
 | .bl i::r,is,e=>by
  simp only[QO]at e;obtain⟨js,e1,rfl⟩:=wA.mp e;rw[Qo e1];rfl
 | .non::_,_,e=>by cases e
 | .int _::_,_,e=>by cases e
 | .str _::_,_,e=>by cases e
 | .ref _::_,_,e=>by cases e
 | .byt _::_,_,e=>by cases e
 | .flt _::_,_,e=>by cases e
 | .ty _::_,_,e=>by cases e
theorem Jz{φ:List Addr}:∀{xs:List V},xs.all flat=true->rvs φ xs xs
 | [],_=>.nil
 |x::xs,h=>by
  simp only[List.all_cons,wC]at h;refine .cons ?_ (Jz h.2);cases x<;>first|rfl|exact trivial|(cases h.1)
theorem jL:∀{us:List Value}{ns:List Int},IntsAre us ns->Vals (ns.map V.int) us
 |_,_,.nil=>.nil
 |_,_,.cons n t r=>.cons ⟨_,rfl⟩ (jL r)
theorem QC(is:List Int):(is.map V.int).all flat=true:=by simp[flat]
theorem O3(is:List Bool):(is.map V.bl).all flat=true:=by simp[flat]
noncomputable def fnB:BF->Value
 | .len=>.builtin "len" | .sum=>.builtin "sum" | .all=>.builtin "all" | .max=>.builtin "max" | .min=>.builtin "min" | .abs=>.builtin "abs"
 | .list=>.type "list" | .int=>.type "int" | .sorted=>.builtin "sorted" | .bits=>.builtin "int.bit_length" | .maxl=>.builtin "max"
variable (X G) in
def qHN(f:BF):List V->Hp->VK->Prop:=λxs H Q=>∃φ h ws v h',Rl X.K G φ h H/\rvs φ ws xs/\qEo f ws h=.ok (v,h')/\∀φ' H' w,Ext φ φ'->Rl X.K G φ' h' H'->rv φ' v w->Q w H'
def DR(P:Program)(W:World)(h:Heap)(n:Nat)(u:Value)(d:PyData):Prop:=(∃as,Reads h u d as)/\d.depth<=n/\(d.showable=true->d.shown.length<=sizeLine->∃bs,ReadAtMost h d.depth bs/\ReprK P W bs h d.depth u d.shown)
def DRs(P:Program)(W:World)(h:Heap)(n:Nat)(us:List Value)(ds:List PyData):Prop:=(∃as,ReadsAll h us ds as)/\PyData.depthAll ds<=n/\(PyData.showableAll ds=true->(∀t∈PyData.shownAll ds,t.length<=sizeLine)->∃bs,ReadAtMost h (PyData.depthAll ds) bs/\ReprAllK P W bs h (PyData.depthAll ds) us (PyData.shownAll ds))
theorem DR.flat{P:Program}{W:World}{hp:Heap}{n:Nat}{u:Value}{d:PyData}(q:(∃as,Reads hp u d as)/\d.hasDict=false/\d.depth<=0):DR P W hp n u d:=by
 obtain⟨⟨as,q1⟩,q2,q3⟩:=q;exact⟨⟨as,q1⟩,by omega,λhs hz=>ReprK.of_reads q1 hs (λz=>by rw[q2]at z;cases z) hz⟩
theorem DRs.list{P:Program}{W:World}{hp:Heap}{n m:Nat}{p:Addr}{o:Obj}{its:List Value}{ds:List PyData}(q:DRs P W hp n its ds)(ho:hp.get? p=some o)(hc:o.cls=.type "list")(hd:o.data=.seq its.toArray m)(hs:PyData.showableAll ds=true)(hz:(listText (PyData.shownAll ds)).length<=sizeLine):
  ∃bs,ReadAtMost hp (PyData.depthAll ds) bs/\ReprAllK P W bs hp (PyData.depthAll ds) its (PyData.shownAll ds)/\p∉bs:=by
 obtain⟨⟨as,q1⟩,q2,q3⟩:=q;obtain⟨bs,hb,hk⟩:=q3 hs (λt ht=>wG (listText_mem_le ht) hz);exact⟨bs,hb,hk,not_mem_of_deeper (Reads.list ho hc hd (by simpa using q1)) (by simp only[PyData.depth];omega) hb⟩
theorem DRs.tuple{P:Program}{W:World}{hp:Heap}{n m:Nat}{p:Addr}{o:Obj}{its:List Value}{ds:List PyData}(q:DRs P W hp n its ds)(ho:hp.get? p=some o)(hc:o.cls=.type "tuple")(hd:o.data=.seq its.toArray m)(hs:PyData.showableAll ds=true)(hz:(tupleText (PyData.shownAll ds)).length<=sizeLine):
  ∃bs,ReadAtMost hp (PyData.depthAll ds) bs/\ReprAllK P W bs hp (PyData.depthAll ds) its (PyData.shownAll ds)/\p∉bs:=by
 obtain⟨⟨as,q1⟩,q2,q3⟩:=q;obtain⟨bs,hb,hk⟩:=q3 hs (λt ht=>wG (tupleText_mem_le ht) hz);exact⟨bs,hb,hk,not_mem_of_deeper (Reads.tuple ho hc hd (by simpa using q1)) (by simp only[PyData.depth];omega) hb⟩
theorem W4(hc:X.calm=true)(hu:X.A.units+8<cLine)(hgd:X.A.guards=some []):∀f,CallR X (fnB f) (qHN X G f):=by
 intro f pins s σ H xs us Q I r ⟨φ,h,ws,v,h',R,rw',e,k⟩;cases f with
 |len=>
  replace e:=zt e;obtain⟨x0,rfl,e⟩:=e;replace e:=za e;obtain⟨a,rfl,e⟩:=e;split at e
  ·rename_i ys ey;cases e;cases rw' with
   |cons r1 t=>
    cases t;obtain⟨p,rfl,hp⟩:=qJ r1;obtain⟨p',zs,hp',hs,rs⟩:=R.its ey;rw[hp]at hp';cases hp';refine _L.call_len_seq pins s σ H _ us Q I r ⟨p,zs,rfl,hs,?_⟩;rw[<-Paired.length rs];exact k φ H _ (.refl _) R rfl
  ·cases e
 |sum=>
  replace e:=zt e;obtain⟨x0,rfl,e⟩:=e;replace e:=za e;obtain⟨a,rfl,e⟩:=e;split at e
  ·rename_i ys ey;split at e
   ·rename_i is ei;cases e;cases rw' with
    |cons r1 t=>
     cases t;obtain⟨p,rfl,hp⟩:=qJ r1;obtain⟨p',zs,hp',hs,rs⟩:=R.lst ey;rw[hp]at hp';cases hp';have hz:=jO (ZP ei) rs;subst hz;obtain⟨its,rv',pl,_⟩:=I.list hs;obtain⟨u,rfl,ru⟩:=_L.vals1 r;cases ru;exact O5 (I.ok.hd hc) pl.isList ei rv' λh1 tk t' hk=>⟨.int is.sum,H,I.kept hk,⟨_,rfl⟩,k φ H _ (.refl _) R rfl⟩
   ·cases e
  ·cases e
 |all=>
  replace e:=zt e;obtain⟨x0,rfl,e⟩:=e;replace e:=za e;obtain⟨a,rfl,e⟩:=e;split at e
  ·rename_i ys ey;split at e
   ·rename_i is ei;cases e;cases rw' with
    |cons r1 t=>
     cases t;obtain⟨p,rfl,hp⟩:=qJ r1;obtain⟨p',zs,hp',hs,rs⟩:=R.lst ey;rw[hp]at hp';cases hp';have hm:=Qo ei;subst hm;have hz:=jO (O3 is) rs;subst hz;obtain⟨its,rv',pl,_⟩:=I.list hs;obtain⟨u,rfl,ru⟩:=_L.vals1 r;cases ru;exact P0 (I.ok.hd hc) pl.isList (N1 rv') λh1 tk hk=>⟨.bl (is.all id),H,I.kept hk,rfl,k φ H _ (.refl _) R rfl⟩
   ·cases e
  ·cases e
 |max=>
  replace e:=two_inv e;obtain⟨x0,y0,rfl,e⟩:=e;replace e:=zT e;obtain⟨i,j,rfl,rfl,e⟩:=e;cases e;cases rw' with
  |cons r1 t=>
   cases t with
   |cons r2 t=>
    cases t;cases qC r1;cases qC r2;exact _L.call_max2 hc pins s σ H _ us Q I r ⟨_,_,rfl,k φ H _ (.refl _) R rfl⟩
 |min=>
  replace e:=two_inv e;obtain⟨x0,y0,rfl,e⟩:=e;replace e:=zT e;obtain⟨i,j,rfl,rfl,e⟩:=e;cases e;cases rw' with
  |cons r1 t=>
   cases t with
   |cons r2 t=>
    cases t;cases qC r1;cases qC r2;exact _L.call_min2 hc pins s σ H _ us Q I r ⟨_,_,rfl,k φ H _ (.refl _) R rfl⟩
 |maxl=>
  replace e:=zt e;obtain⟨x0,rfl,e⟩:=e;replace e:=za e;obtain⟨a,rfl,e⟩:=e;split at e
  ·rename_i ys ey;split at e
   ·rename_i M eM;cases e;obtain⟨is,ei,em⟩:=wN.mp eM;cases rw' with
    |cons r1 t=>
     cases t;obtain⟨p,rfl,hp⟩:=qJ r1;obtain⟨p',zs,hp',hs,rs⟩:=R.lst ey;rw[hp]at hp';cases hp';have hm:=jT ei;subst hm;have hz:=jO (QC is) rs;subst hz;obtain⟨its,rv',pl,_⟩:=I.list hs;obtain⟨u,rfl,ru⟩:=_L.vals1 r;cases ru;exact D9 (I.ok.hd hc) pl.isList (_L.intsAre_of rv') em λh1 tk t' hk=>⟨.int M,H,I.kept hk,⟨_,rfl⟩,k φ H _ (.refl _) R rfl⟩
   ·cases e
  ·cases e
 |abs=>
  replace e:=zt e;obtain⟨x0,rfl,e⟩:=e;split at e
  ·cases e;cases rw' with
   |cons r1 t=>
    cases t;cases qC r1;exact _L.call_abs pins s σ H _ us Q I r ⟨_,rfl,k φ H _ (.refl _) R rfl⟩
  ·cases e
 |bits=>
  replace e:=zt e;obtain⟨x0,rfl,e⟩:=e;split at e
  ·cases e;cases rw' with
   |cons r1 t=>
    cases t;cases qC r1;obtain⟨u,rfl,ru⟩:=_L.vals1 r;obtain⟨t,rfl⟩:=ru;rename_i j;exact call_int_bit_length ⟨.int ((Builtin.Int.intBits j:Nat):Int),H,I.tok _,⟨_,rfl⟩,k φ H _ (.refl _) R rfl⟩
  ·cases e
 |list=>
  replace e:=zt e;obtain⟨x0,rfl,e⟩:=e;replace e:=za e;obtain⟨a,rfl,e⟩:=e;split at e
  ·rename_i ys ey;cases e;cases rw' with
   |cons r1 t=>
    cases t;obtain⟨p,rfl,hp⟩:=qJ r1;obtain⟨p',zs,hp',hs,rs⟩:=R.its ey;rw[hp]at hp';cases hp';exact _L.call_list_of pins s σ H _ us Q I r ⟨p,zs,rfl,hs,λl hl=>k (φ++[l]) _ _ ⟨[l],rfl⟩ (R.newL hl rs) R.lastRef⟩
  ·cases e
 |int=>
  replace e:=zt e;obtain⟨x0,rfl,e⟩:=e;split at e
  ·cases e;cases rw' with
   |cons r1 t=>
    cases t;cases qC r1;exact _L.call_int1 pins s σ H _ us Q I r (.inl ⟨_,rfl,k φ H _ (.refl _) R rfl⟩)
  ·cases e;cases rw' with
   |cons r1 t=>
    cases t;cases zd r1;exact _L.call_int1 pins s σ H _ us Q I r (.inr ⟨_,rfl,k φ H _ (.refl _) R rfl⟩)
  ·cases e
 |sorted=>
  replace e:=zt e;obtain⟨x0,rfl,e⟩:=e;replace e:=za e;obtain⟨a,rfl,e⟩:=e;split at e
  ·rename_i ys ey;split at e
   ·rename_i is ei;split at e
    ·rename_i h64;cases e;cases rw' with
     |cons r1 t=>
      cases t;obtain⟨p,rfl,hp⟩:=qJ r1;obtain⟨p',zs,hp',hs,rs⟩:=R.lst ey;rw[hp]at hp';cases hp';have hm:=jT ei;subst hm;have hz:=jO (QC is) rs;subst hz;obtain⟨its,rv',pl,_⟩:=I.list hs;obtain⟨u,rfl,ru⟩:=_L.vals1 r;cases ru;have hi:IntsAre its is:=_L.intsAre_of rv';refine sorted_ints pl.isList hi (by rw[IntsAre.length hi];exact h64) λout ns' a1 a2 a3=>?_;have e1:ns'=isort is:=sort_one a3 (isort_le is) (a2.trans (isort_perm is).symm);subst e1;obtain⟨c,hc'⟩:=sortedAll_at s.heap its out;have hl:=(isort_perm is).length_eq;refine⟨.ref (s.heap.objs.size+1),_,I.laid (t':=s.toks) (o:=.lst ((isort is).map V.int)) (λb o q=>sortedAll_old q) (Nat.le_succ _) ?_,rfl,k (φ++[s.heap.objs.size+1]) _ _ ⟨[_],rfl⟩ (R.newL (I.hok.fresh (Nat.le_succ _)) (Jz (QC _))) R.lastRef⟩;refine⟨by rw[wZ,hl,sizeLine_eq];omega,out.toList,c,jL a1,?_⟩;rw[Array.toArray_toList];exact hc'
    ·cases e
   ·cases e
  ·cases e
end
open _L (PW)
theorem jD{r:RV}{b:Bool}{h:AH}(e:asB r=.ok (b,h)):r=.ok (.bl b,h):=by
 unfold asB at e;obtain⟨⟨v,h1⟩,e1,e2⟩:=tK e;dsimp only at e2;split at e2
 ·cases e2;exact e1
 ·cases e2
theorem L5{r:RV}{b:Bool}{h:AH}(e:r=.ok (.bl b,h)):asB r=.ok (b,h):=by
 subst e;rfl
section
variable{X:Cx}{G:List Addr}{F:Nat->List V->AH->RV}{a b c:E}{as:Es}{ea eb ec:Expr}{es:List Expr}{pos:Pos}
theorem Qj{K:PySem.W.Frag}{σ:St}{H:Hp}{Q:Bool->Hp->Prop}(q:tT K G F a σ H Q):tE K G F a σ H (λx H'=>∃k,x=.bl k/\Q k H'):=by
 obtain⟨φ,h,σa,b,h',R,rs,e,k⟩:=q;exact⟨φ,h,σa,.bl b,h',R,rs,jD e,λφ' H' w x' R' r'=>⟨b,zd r',k φ' H' x' R'⟩⟩
theorem qc(h:SE X G F ea a)(he:∀A4,isTrue ea X.env A4=(do let v <- A4;standAt ea.pos;holding [v] (truthy v))):ST X G F ea a:=
 S3 (_L.pt_val h he) λ_ _ _ q=>Qj q
theorem qAe{op:COp}{σc:St}{H:Hp}{Q:VK}(q:tE X.K G F (.cmp op a b) σc H Q):_L.tOp (qCc X G op) (tE X.K G F a) (tE X.K G F b) σc H Q:=by
 obtain⟨φ,h,σ,v,h',R,rs,e,k⟩:=q;unfold ev at e;obtain⟨⟨x,h1⟩,e1,e⟩:=tK e;obtain⟨⟨y,h2⟩,e2,e⟩:=tK e;refine QF R rs e1 e2 λφ2 H2 xc yc x2 R2 r1 r2=>?_;unfold l7 at e;dsimp only at e;split at e
 ·rename_i t et;cases e;exact⟨φ2,_,x,y,t,R2,r1,r2,et,k φ2 H2 _ x2 R2 rfl⟩
 ·cases e
theorem qEp{op:COp}(hu:X.A.units+8<cLine)(ha:SE X G F ea a)(hb:SE X G F eb b)(hm:behindInMarks (opC op) eb=false):SE X G F (.Compare ea [opC op] [eb] pos) (.cmp op a b):=
 zD (_L.pe_cmpR (zY hu op) ha hb hm) λ_ _ _=>qAe
theorem qEl{op:COp}(hu:X.A.units+8<cLine)(ha:SE X G F ea a)(hb:SE X G F eb b)(hm:behindInMarks (opC op) eb=false):ST X G F (.Compare ea [opC op] [eb] pos) (.cmp op a b):=
 S3 (_L.pt_cmpR (zY hu op) ha hb hm) λ_ _ _ q=>qAe (Qj q)
theorem L6{o1 o2:COp}{σc:St}{H:Hp}{Q:VK}(q:tE X.K G F (.cmp2 o1 o2 a b c) σc H Q):_L.tChain (qCc X G o1) (qCc X G o2) (tE X.K G F a) (tE X.K G F b) (tE X.K G F c) σc H Q:=by
 obtain⟨φ,h,σ,v,h',R,rs,e,k⟩:=q;unfold ev at e;obtain⟨⟨x,h1⟩,e1,e⟩:=tK e;obtain⟨⟨y,h2⟩,e2,e⟩:=tK e;refine QF R rs e1 e2 λφ2 H2 xc yc x2 R2 r1 r2=>?_;dsimp only at e;split at e
 ·rename_i et;refine⟨φ2,_,x,y,true,R2,r1,r2,et,true,rfl,?_⟩;rw[if_pos rfl];obtain⟨⟨z,h3⟩,e3,e⟩:=tK e;refine⟨φ2,_,σ,z,h3,R2,rst.mono x2 rs,e3,λφ3 H3 zc x3 R3 r3=>?_⟩;unfold l7 at e;dsimp only at e;split at e
  ·rename_i t et;cases e;exact⟨φ3,_,y,z,t,R3,rv.mono x3 r2,r3,et,k φ3 H3 _ (x2.trans x3) R3 rfl⟩
  ·cases e
 ·rename_i et;cases e;refine⟨φ2,_,x,y,false,R2,r1,r2,et,false,rfl,?_⟩;rw[if_neg (by decide)];exact k φ2 H2 _ x2 R2 rfl
 ·cases e
theorem qAQ{o1 o2:COp}(hu:X.A.units+8<cLine)(ha:SE X G F ea a)(hb:SE X G F eb b)(hc:SE X G F ec c)(hm:lastMarks [opC o1,opC o2] [eb,ec]=false):SE X G F (.Compare ea [opC o1,opC o2] [eb,ec] pos) (.cmp2 o1 o2 a b c):=
 zD (_L.pe_chain (zY hu o1) (zY hu o2) ha hb hc hm) λ_ _ _=>L6
theorem v5{o1 o2:COp}(hu:X.A.units+8<cLine)(ha:SE X G F ea a)(hb:SE X G F eb b)(hc:SE X G F ec c)(hm:lastMarks [opC o1,opC o2] [eb,ec]=false):ST X G F (.Compare ea [opC o1,opC o2] [eb,ec] pos) (.cmp2 o1 o2 a b c):=
 S3 (_L.pt_chain (zY hu o1) (zY hu o2) ha hb hc hm) λ_ _ _ q=>L6 (Qj q)
noncomputable def E6(r r' r2:_L.R2)(ta tb tc td:_L.TE):_L.TE:=λσ H Q=>ta σ H λx H1=>tb σ H1 λy H2=>r x y H2 λz H3=>∃k,z=.bl k/\
 (if k=true then tc σ H3 λw' H4=>r' y w' H4 λz' H5=>∃k',z'=.bl k'/\(if k'=true then td σ H5 λu' H6=>r2 w' u' H6 Q else Q (.bl false) H5) else Q (.bl false) H3)
section
open _L
theorem a6{X:_L.Cx}{a b c d:Expr}{ta tb tc td:_L.TE}{op op' op2:CmpOp}{r r' r2:R2}(ho:OpR X (compareOp op) r)(ho':OpR X (compareOp op') r')(ho2:OpR X (compareOp op2) r2)(ha:PE X a ta)(hb:PE X b tb)(hc:PE X c tc)(hd:PE X d td)
  (hm:lastMarks [op,op',op2] [b,c,d]=false):PE X (.Compare a [op,op',op2] [b,c,d] pos) (E6 r r' r2 ta tb tc td):=by
 intro pins s σ H Q I h;refine Compare_chain (thn (ha pins s σ H _ I h) λv s1 ⟨x,H1,I1,r1,q1⟩=>chain_link (thn (hb pins s1 σ H1 _ I1 q1) λu s2 ⟨y,H2,I2,r2,q2⟩=>
  thn (ho pins s2 σ H2 x y v u _ I2 r1 r2 q2) λd s3 ⟨z,H3,I3,r3,k,e,q3⟩=>?_)) hm
 subst e;cases r3;refine uJ ?_;cases k with
 |false=>exact ite_ff ⟨.bl false,H3,I3,rfl,q3⟩
 |true=>
  refine ite_tt (chain_link (thn (hc pins s3 σ H3 _ I3 q3) λw' s4 ⟨z',H4,I4,r4,q4⟩=>thn (ho' pins s4 σ H4 y z' u w' _ I4 r2 r4 q4) λd' s5 ⟨z2,H5,I5,r5,k2,e2,q5⟩=>?_));subst e2;cases r5;refine uJ ?_;cases k2 with
  |false=>exact ite_ff ⟨.bl false,H5,I5,rfl,q5⟩
  |true=>exact ite_tt (chain_last (thn (hd pins s5 σ H5 _ I5 q5) λw2 s6 ⟨z3,H6,I6,r6,q6⟩=>ho2 pins s6 σ H6 z' z3 w' w2 Q I6 r4 r6 q6))
theorem U9{X:_L.Cx}{a b c d:Expr}{ta tb tc td:_L.TE}{op op' op2:CmpOp}{r r' r2:R2}(ho:OpR X (compareOp op) r)(ho':OpR X (compareOp op') r')(ho2:OpR X (compareOp op2) r2)(ha:PE X a ta)(hb:PE X b tb)(hc:PE X c tc)(hd:PE X d td)
  (hm:lastMarks [op,op',op2] [b,c,d]=false):PT X (.Compare a [op,op',op2] [b,c,d] pos) (qBY (E6 r r' r2 ta tb tc td)):=by
 intro pins s σ H Q I h;refine isTrue_chain (thn (ha pins s σ H _ I h) λv s1 ⟨x,H1,I1,r1,q1⟩=>test_link (thn (hb pins s1 σ H1 _ I1 q1) λu s2 ⟨y,H2,I2,r2,q2⟩=>
  thn (ho pins s2 σ H2 x y v u _ I2 r1 r2 q2) λd s3 ⟨z,H3,I3,r3,k,e,q3⟩=>?_)) hm
 subst e;cases r3;refine uJ ?_;cases k with
 |false=>
  obtain⟨k',e',q'⟩:=q3;cases e';exact ite_ff ⟨H3,I3,q'⟩
 |true=>
  refine ite_tt (test_link (thn (hc pins s3 σ H3 _ I3 q3) λw' s4 ⟨z',H4,I4,r4,q4⟩=>thn (ho' pins s4 σ H4 y z' u w' _ I4 r2 r4 q4) λd' s5 ⟨z2,H5,I5,r5,k2,e2,q5⟩=>?_));subst e2;cases r5;refine uJ ?_;cases k2 with
  |false=>
   obtain⟨k',e',q'⟩:=q5;cases e';exact ite_ff ⟨H5,I5,q'⟩
  |true=>
   refine ite_tt (test_last (thn (hd pins s5 σ H5 _ I5 q5) λw2 s6 ⟨z3,H6,I6,r6,q6⟩=>thn (ho2 pins s6 σ H6 z' z3 w' w2 _ I6 r4 r6 q6) λd2 s7 ⟨z4,H7,I7,r7,k4,e4,q7⟩=>?_));subst e4;cases r7;exact uJ ⟨H7,I7,q7⟩
end
theorem Jv{o1 o2 o3:COp}{σc:St}{H:Hp}{Q:VK}(q:tE X.K G F (.cmp3 o1 o2 o3 a b c d) σc H Q):E6 (qCc X G o1) (qCc X G o2) (qCc X G o3) (tE X.K G F a) (tE X.K G F b) (tE X.K G F c) (tE X.K G F d) σc H Q:=by
 obtain⟨φ,h,σ,v,h',R,rs,e,k⟩:=q;unfold ev at e;obtain⟨⟨x,h1⟩,e1,e⟩:=tK e;obtain⟨⟨y,h2⟩,e2,e⟩:=tK e;refine QF R rs e1 e2 λφ2 H2 xc yc x2 R2 r1 r2=>?_;dsimp only at e;split at e
 ·rename_i et;refine⟨φ2,_,x,y,true,R2,r1,r2,et,true,rfl,?_⟩;rw[if_pos rfl];obtain⟨⟨z,h3⟩,e3,e⟩:=tK e;refine⟨φ2,_,σ,z,h3,R2,rst.mono x2 rs,e3,λφ3 H3 zc x3 R3 r3=>?_⟩;dsimp only at e;split at e
  ·rename_i et3;refine⟨φ3,_,y,z,true,R3,rv.mono x3 r2,r3,et3,true,rfl,?_⟩;rw[if_pos rfl];obtain⟨⟨w,h4⟩,e4,e⟩:=tK e;refine⟨φ3,_,σ,w,h4,R3,rst.mono x3 (rst.mono x2 rs),e4,λφ4 H4 wc x4 R4 r4=>?_⟩;unfold l7 at e;dsimp only at e;split at e
   ·rename_i t et;cases e;exact⟨φ4,_,z,w,t,R4,rv.mono x4 r3,r4,et,k φ4 H4 _ ((x2.trans x3).trans x4) R4 rfl⟩
   ·cases e
  ·rename_i et3;cases e;refine⟨φ3,_,y,z,false,R3,rv.mono x3 r2,r3,et3,false,rfl,?_⟩;rw[if_neg (by decide)];exact k φ3 H3 _ (x2.trans x3) R3 rfl
  ·cases e
 ·rename_i et;cases e;refine⟨φ2,_,x,y,false,R2,r1,r2,et,false,rfl,?_⟩;rw[if_neg (by decide)];exact k φ2 H2 _ x2 R2 rfl
 ·cases e
theorem W8{o1 o2 o3:COp}(hu:X.A.units+8<cLine)(ha:SE X G F ea a)(hb:SE X G F eb b)(hc:SE X G F ec c)(hd:SE X G F ed d)(hm:lastMarks [opC o1,opC o2,opC o3] [eb,ec,ed]=false):SE X G F (.Compare ea [opC o1,opC o2,opC o3] [eb,ec,ed] pos) (.cmp3 o1 o2 o3 a b c d):=
 zD (a6 (zY hu o1) (zY hu o2) (zY hu o3) ha hb hc hd hm) λ_ _ _=>Jv
theorem S6{o1 o2 o3:COp}(hu:X.A.units+8<cLine)(ha:SE X G F ea a)(hb:SE X G F eb b)(hc:SE X G F ec c)(hd:SE X G F ed d)(hm:lastMarks [opC o1,opC o2,opC o3] [eb,ec,ed]=false):ST X G F (.Compare ea [opC o1,opC o2,opC o3] [eb,ec,ed] pos) (.cmp3 o1 o2 o3 a b c d):=
 S3 (U9 (zY hu o1) (zY hu o2) (zY hu o3) ha hb hc hd hm) λ_ _ _ q=>Jv (Qj q)
theorem qC1{σc:St}{H:Hp}{Q:VK}(q:tE X.K G F (.and a b) σc H Q):_L.tAndV (tE X.K G F a) (tE X.K G F b) σc H Q:=by
 obtain⟨φ,h,σ,v,h',R,rs,e,k⟩:=q;unfold ev at e;obtain⟨⟨x,h1⟩,e1,e⟩:=tK e;refine⟨φ,h,σ,.bl x,h1,R,rs,jD e1,λφ1 H1 w x1 R1 r1=>⟨x,zd r1,?_⟩⟩;dsimp only at e;cases x with
 |true=>
  rw[if_pos rfl]at e ⊢;exact⟨φ1,h1,σ,v,h',R1,rst.mono x1 rs,e,λφ2 H2 w2 x2 R2 r2=>k φ2 H2 w2 (x1.trans x2) R2 r2⟩
 |false=>
  rw[if_neg (by decide)]at e ⊢;cases e;exact k φ1 H1 _ x1 R1 rfl
theorem qDb{σc:St}{H:Hp}{Q:VK}(q:tE X.K G F (.or a b) σc H Q):_L.tOrV (tE X.K G F a) (tE X.K G F b) σc H Q:=by
 obtain⟨φ,h,σ,v,h',R,rs,e,k⟩:=q;unfold ev at e;obtain⟨⟨x,h1⟩,e1,e⟩:=tK e;refine⟨φ,h,σ,.bl x,h1,R,rs,jD e1,λφ1 H1 w x1 R1 r1=>⟨x,zd r1,?_⟩⟩;dsimp only at e;cases x with
 |false=>
  rw[if_neg (by decide)]at e ⊢;exact⟨φ1,h1,σ,v,h',R1,rst.mono x1 rs,e,λφ2 H2 w2 x2 R2 r2=>k φ2 H2 w2 (x1.trans x2) R2 r2⟩
 |true=>
  rw[if_pos rfl]at e ⊢;cases e;exact k φ1 H1 _ x1 R1 rfl
theorem qE7{σc:St}{H:Hp}{Q:Bool->Hp->Prop}(q:tT X.K G F (.and a b) σc H Q):_L.tAnd (tT X.K G F a) (tT X.K G F b) σc H Q:=by
 obtain⟨φ,h,σ,t,h',R,rs,e,k⟩:=q;have e:=jD e;unfold ev at e;obtain⟨⟨x,h1⟩,e1,e⟩:=tK e;refine⟨φ,h,σ,x,h1,R,rs,e1,λφ1 H1 x1 R1=>?_⟩;dsimp only at e;cases x with
 |true=>
  rw[if_pos rfl]at e ⊢;exact⟨φ1,h1,σ,t,h',R1,rst.mono x1 rs,L5 e,λφ2 H2 x2 R2=>k φ2 H2 (x1.trans x2) R2⟩
 |false=>
  rw[if_neg (by decide)]at e ⊢;cases e;exact k φ1 H1 x1 R1
theorem qFx{σc:St}{H:Hp}{Q:Bool->Hp->Prop}(q:tT X.K G F (.or a b) σc H Q):_L.tOr (tT X.K G F a) (tT X.K G F b) σc H Q:=by
 obtain⟨φ,h,σ,t,h',R,rs,e,k⟩:=q;have e:=jD e;unfold ev at e;obtain⟨⟨x,h1⟩,e1,e⟩:=tK e;refine⟨φ,h,σ,x,h1,R,rs,e1,λφ1 H1 x1 R1=>?_⟩;dsimp only at e;cases x with
 |false=>
  rw[if_neg (by decide)]at e ⊢;exact⟨φ1,h1,σ,t,h',R1,rst.mono x1 rs,L5 e,λφ2 H2 x2 R2=>k φ2 H2 (x1.trans x2) R2⟩
 |true=>
  rw[if_pos rfl]at e ⊢;cases e;exact k φ1 H1 x1 R1
variable (X G F) in
abbrev SW(e:Expr)(a:E):Prop:=PW X e (tT X.K G F a)
theorem qD7{e:Expr}{t t':TT}(h:PW X e t)(w:∀σ H Q,t' σ H Q->t σ H Q):PW X e t':=λwh pins s σ H Q I q=>h wh pins s σ H Q I (w σ H Q q)
theorem qDZ{QD:List Expr}(ha:SE X G F ea a)(hb:SE X G F (.BoolOp .And (eb::QD) pos) b):SE X G F (.BoolOp .And (ea::eb::QD) pos) (.and a b):=zD (_L.pe_and ha hb) λ_ _ _=>qC1
theorem qFu{QD:List Expr}(ha:SE X G F ea a)(hb:SE X G F (.BoolOp .Or (eb::QD) pos) b):SE X G F (.BoolOp .Or (ea::eb::QD) pos) (.or a b):=zD (_L.pe_or ha hb) λ_ _ _=>qDb
theorem qDH{QD:List Expr}(ha:ST X G F ea a)(hb:SW X G F (.BoolOp .And (eb::QD) pos) b):SW X G F (.BoolOp .And (ea::eb::QD) pos) (.and a b):=qD7 (_L.pw_and ha hb) λ_ _ _=>qE7
theorem qGF{QD:List Expr}(ha:ST X G F ea a)(hb:SW X G F (.BoolOp .Or (eb::QD) pos) b):SW X G F (.BoolOp .Or (ea::eb::QD) pos) (.or a b):=qD7 (_L.pw_or ha hb) λ_ _ _=>qFx
theorem qFI(ha:SE X G F ea a):SE X G F (.UnaryOp .Not ea pos) (.not a):=by
 refine zD (_L.pe_not ha) λσc H Q q=>?_;obtain⟨φ,h,σ,v,h',R,rs,e,k⟩:=q;unfold ev at e;obtain⟨⟨x,h1⟩,e1,e⟩:=tK e;cases e;exact⟨φ,h,σ,.bl x,_,R,rs,jD e1,λφ1 H1 w x1 R1 r1=>⟨x,zd r1,k φ1 H1 _ x1 R1 rfl⟩⟩
theorem qEF(ha:ST X G F ea a):ST X G F (.UnaryOp .Not ea pos) (.not a):=by
 refine S3 (_L.pt_not ha) λσc H Q q=>?_;obtain⟨φ,h,σ,t,h',R,rs,e,k⟩:=q;have e:=jD e;unfold ev at e;obtain⟨⟨x,h1⟩,e1,e⟩:=tK e;cases e;exact⟨φ,h,σ,x,_,R,rs,e1,λφ1 H1 x1 R1=>k φ1 H1 x1 R1⟩
theorem qEQ(hc:ST X G F ec c)(ha:SE X G F ea a)(hb:SE X G F eb b):SE X G F (.IfExp ec ea eb pos) (.ite c a b):=by
 refine zD (_L.pe_ifExp hc ha hb) λσc H Q q=>?_;obtain⟨φ,h,σ,v,h',R,rs,e,k⟩:=q;unfold ev at e;obtain⟨⟨x,h1⟩,e1,e⟩:=tK e;refine⟨φ,h,σ,x,h1,R,rs,e1,λφ1 H1 x1 R1=>?_⟩;dsimp only at e;cases x with
 |true=>
  rw[if_pos rfl]at e ⊢;exact⟨φ1,h1,σ,v,h',R1,rst.mono x1 rs,e,λφ2 H2 w2 x2 R2 r2=>k φ2 H2 w2 (x1.trans x2) R2 r2⟩
 |false=>
  rw[if_neg (by decide)]at e ⊢;exact⟨φ1,h1,σ,v,h',R1,rst.mono x1 rs,e,λφ2 H2 w2 x2 R2 r2=>k φ2 H2 w2 (x1.trans x2) R2 r2⟩
theorem qEi(hc:ST X G F ec c)(ha:ST X G F ea a)(hb:ST X G F eb b):ST X G F (.IfExp ec ea eb pos) (.ite c a b):=by
 intro pins s σc H Q I q;obtain⟨φ,h,σ,t,h',R,rs,e,k⟩:=q;have e:=jD e;unfold ev at e;obtain⟨⟨x,h1⟩,e1,e⟩:=tK e;refine isTrue_IfExp (_L.thn (hc pins s σc H (λz H1=>(z=true->tT X.K G F a σc H1 Q)/\(z=false->tT X.K G F b σc H1 Q)) I ⟨φ,h,σ,x,h1,R,rs,e1,λφ1 H1 x1 R1=>?_⟩) λz s1 ⟨H1,I1,q1,q2⟩=>?_)
 ·dsimp only at e;cases x with
  |true=>
   rw[if_pos rfl]at e;exact⟨λ_=>⟨φ1,h1,σ,t,h',R1,rst.mono x1 rs,L5 e,λφ2 H2 x2 R2=>k φ2 H2 (x1.trans x2) R2⟩,λz=>nomatch z⟩
  |false=>
   rw[if_neg (by decide)]at e;exact⟨(λz=>nomatch z),λ_=>⟨φ1,h1,σ,t,h',R1,rst.mono x1 rs,L5 e,λφ2 H2 x2 R2=>k φ2 H2 (x1.trans x2) R2⟩⟩
 ·cases z with
  |true=>exact ha pins s1 σc H1 Q I1 (q1 rfl)
  |false=>exact hb pins s1 σc H1 Q I1 (q2 rfl)
noncomputable def qK:Expr->Bool
 | .Starred ..=>false
 |_=>true
theorem qE{e:Expr}{env:Env}(h:qK e=true):starEach (e::es) env=(false,eval e env)::starEach es env:=by
 cases e<;>first|rfl|cases h
theorem zh{env:Env}:∀{es:List Expr},es.all qK=true->(backTo pos (starEach es env)).any (·.1)=false
 | [],_=>rfl
 |e::es,h=>by
  simp only[List.all_cons,wC]at h;rw[qE h.1];show (false||(backTo pos (starEach es env)).any (·.1))=false;rw[zh h.2];rfl
theorem X5:SA X G F [] .nil:=by
 refine qCv _L.pa_nil λσc H Q q=>?_;obtain⟨φ,h,σ,v,h',R,rs,e,k⟩:=q;unfold evs at e;cases e;exact k φ H [] (.refl _) R .nil
theorem JJ(hn:qK ea=true)(ha:SE X G F ea a)(hr:SA X G F es as):SA X G F (ea::es) (.cons a as):=by
 refine qCv (_L.pa_cons ha hr (qE hn)) λσc H Q q=>?_;obtain⟨φ,h,σ,v,h',R,rs,e,k⟩:=q;unfold evs at e;obtain⟨⟨x,h1⟩,e1,e⟩:=tK e;obtain⟨⟨xs,h2⟩,e2,e⟩:=tK e;cases e;exact⟨φ,h,σ,x,h1,R,rs,e1,λφ1 H1 w x1 R1 r1=>⟨φ1,h1,σ,xs,_,R1,rst.mono x1 rs,e2,λφ2 H2 ws x2 R2 r2=>k φ2 H2 _ (x1.trans x2) R2 (.cons (rv.mono x2 r1) r2)⟩⟩
theorem qE9(h:SA X G F es as):SE X G F (.List es pos) (.lst as):=by
 refine zD (_L.pe_lst h) λσc H Q q=>?_;obtain⟨φ,h,σ,v,h',R,rs,e,k⟩:=q;unfold ev at e;obtain⟨⟨xs,h1⟩,e1,e⟩:=tK e;refine⟨φ,h,σ,xs,h1,R,rs,e1,λφ1 H1 ws x1 R1 r1=>?_⟩;dsimp only at e;split at e
 ·rename_i hl;cases e;refine⟨by rw[<-Paired.length r1];exact wG hl ZF,λp hp=>k (φ1++[p]) _ _ (x1.trans ⟨[p],rfl⟩) (R1.newL hp r1) R1.lastRef⟩
 ·cases e
theorem k7:SE X G F (.Dict [] [] pos) .dnew:=by
 intro pins s σc H Q I q;obtain⟨φ,h,σ,v,h',R,rs,e,k⟩:=q;unfold ev at e;cases e;have hbig:sysModules<s.heap.objs.size:=vA (by decide) (I.mod.glob.keeps I.bk).lt;have hn:=I.hok.fresh (wF s.heap.objs.size);exact wpAny_Dict_empty ⟨.ref s.heap.objs.size,_,I.laid (a:=s.heap.objs.size) (o:=.dK []) (t':=s.toks) (λ_ _ q=>Heap.get?_push_of_some _ q) (wF _)
  ⟨vv _,beq_eq_false_iff_ne.mpr (Ne.symm (wX hbig)),[],.nil,Heap.DictOf.new s.heap⟩,rfl,
  k (φ++[s.heap.objs.size]) _ _ ⟨[s.heap.objs.size],rfl⟩ (R.new hn (o:=.ob (.dct [])) upd_same) R.lastRef⟩
theorem qBK {x1}(h:SA X G F es as):SE X G F (.Tuple es x1 pos) (.tup as):=by
 refine zD (_L.pe_tup h) λσc H Q q=>?_;obtain⟨φ,h,σ,v,h',R,rs,e,k⟩:=q;unfold ev at e;obtain⟨⟨xs,h1⟩,e1,e⟩:=tK e;refine⟨φ,h,σ,xs,h1,R,rs,e1,λφ1 H1 ws x1 R1 r1=>?_⟩;dsimp only at e;split at e
 ·rename_i hl;cases e;refine⟨by rw[<-Paired.length r1];exact wG hl ZF,λp hp=>k (φ1++[p]) _ _ (x1.trans ⟨[p],rfl⟩) (R1.newT hp r1) R1.lastRef⟩
 ·cases e
variable (G F) in
noncomputable def spF(K:PySem.W.Frag)(f:Nat):_L.Sp:=λvs H Q _=>∃φ h ws v h',Rl K G φ h H/\rvs φ ws vs/\F f ws h=.ok (v,h')/\∀φ' H' w,Ext φ φ'->Rl K G φ' h' H'->rv φ' v w->Q w H'
variable (X G F) in
structure FnS(f:Nat)(x:Str):Prop where
 ex:∃k fa fd ps,_L.FnOk X.prog X.w X.K X.mg X.base _L.CX0 k fa fd ps (spF G F X.K f)/\_L.Room k X.A/\X.mg x=some (.ref fa)/\PySem.W.keepIn X.K (.ref fa)=true/\_L.Binds X.K fd ps []/\_L.Room k X.A.in1
theorem Z1{f:Nat}{σc:St}{H:Hp}{Q:VK}(q:tE X.K G F (.call f as) σc H Q):_L.tCall (spF G F X.K f) [] _L.E0 (tL X.K G F as) σc H Q:=by
 obtain⟨φ,h,σ,v,h',R,rs,e,k⟩:=q;unfold ev at e;obtain⟨⟨xs,h1⟩,e1,e⟩:=tK e;refine⟨φ,h,σ,xs,h1,R,rs,e1,λφ1 H1 ws x1 R1 r1=>?_⟩;have e:F f xs h1=.ok (v,h'):=by
  have e:(F f xs h1).nx=.ok (v,h'):=e;revert e;generalize F f xs h1=r;cases r<;>intro e<;>first|exact e|cases e
 refine⟨φ1,h1,xs,v,h',R1,by rw[wO];exact r1,e,λφ2 H2 w x2 R2 r2=>k φ2 H2 w (x1.trans x2) R2 r2⟩
theorem T9{f:Nat}{x:Str}{p:Pos}(hf:FnS X G F f x)(hg:_L.Gl X x)(hd:(x==("__debug__":Str))=false)(hn:qK ea=true)(hs:es.all qK=true)(ha:SA X G F (ea::es) as):SE X G F (.Call (.Name x p) (ea::es) [] pos) (.call f as):=by
 obtain⟨k,fa,fd,ps,h1,h2,h3,h4,h5,_⟩:=hf.ex;exact zD (_L.pe_call h1 h2 hg h3 h4 h5 .nil _L.pass0 ha hd (qE hn) (zh hs)) λ_ _ _=>Z1
theorem qAR{f:Nat}{x:Str}{p:Pos}(hf:FnS X G F f x)(hg:_L.Gl X x)(hd:(x==("__debug__":Str))=false):SE X G F (.Call (.Name x p) [] [] pos) (.call f .nil):=by
 obtain⟨k,fa,fd,ps,h1,h2,h3,h4,h5,_⟩:=hf.ex;refine zD (_L.pe_call0 h1 h2 hg h3 h4 h5 .nil _L.pass0 hd) λσc H Q q=>?_;obtain⟨φ,h,σ,vs,h',R,rs,e,k⟩:=Z1 q;unfold evs at e;cases e;exact k φ H [] (.refl _) R .nil
theorem qAp{f:BF}{σc:St}{H:Hp}{Q:VK}(q:tE X.K G F (.blt f as) σc H Q):_L.tCB (qHN X G f) (tL X.K G F as) σc H Q:=by
 obtain⟨φ,h,σ,v,h',R,rs,e,k⟩:=q;unfold ev at e;obtain⟨⟨xs,h1⟩,e1,e⟩:=tK e;exact⟨φ,h,σ,xs,h1,R,rs,e1,λφ1 H1 ws x1 R1 r1=>⟨φ1,h1,xs,v,h',R1,r1,e,λφ2 H2 w x2 R2 r2=>k φ2 H2 w (x1.trans x2) R2 r2⟩⟩
theorem qDw{f:BF}{x:Str}{p:Pos}(hc:X.calm=true)(hu:X.A.units+8<cLine)(hgd:X.A.guards=some [])(hg:_L.Gl X x)(hm:X.mg x=none)(hv:bootBuiltins x=some (fnB f))(hn:qK ea=true)(hs:es.all qK=true)(ha:SA X G F (ea::es) as)
  (h1:x≠"__name__") (h2:(x==("__debug__":Str))=false):SE X G F (.Call (.Name x p) (ea::es) [] pos) (.blt f as):=by
 have rule:=W4 (G:=G) hc hu hgd f;cases f
 all_goals first
  |exact zD (_L.pe_callB rule hg hm hv ha h1 h2 (qE hn) (zh hs)) λ_ _ _=>qAp
  |exact zD (_L.pe_callTy rule hg hm hv ha h1 h2 (qE hn) (zh hs)) λ_ _ _=>qAp
noncomputable def JT(t:String):Bool:=t=="int"||t=="bool"||t=="list"||t=="tuple"||t=="str"||t=="dict"
theorem Qx(K:PySem.W.Frag):∀{t c:String},(t="NoneType"\/t="bool"\/t="int"\/t="str"\/t="list"\/t="tuple"\/t="dict")->JT c=true->PySem.W.kitOne K (.type t) (.type c)=some (jI t c):=by
 intro t c ht hc;have hc':c="int"\/c="bool"\/c="list"\/c="tuple"\/c="str"\/c="dict":=by
  simp only[JT,vT,beq_iff_eq]at hc;rcases hc with((((h|h)|h)|h)|h)|h<;>simp[h]
 rcases ht with rfl|rfl|rfl|rfl|rfl|rfl|rfl<;>rcases hc' with rfl|rfl|rfl|rfl|rfl|rfl<;>kernel_rfl
variable (X G) in
def qIA(c:String):List V->Hp->VK->Prop:=λxs H Q=>∃φ h xa x t,xs=[x,.ty c]/\Rl X.K G φ h H/\rv φ xa x/\jC h xa=some t/\Q (.bl (jI t c)) H
theorem k8{c:String}(hc:JT c=true):CallR X (.builtin "isinstance") (qIA X G c):=by
 intro pins s σ H xs us Q I r ⟨φ,h,xa,x,t,e,R,rx,ht,q⟩;subst e;obtain⟨u,u2,rfl,r1,r2⟩:=_L.vals2 r;cases (show u2=Value.type c from r2);have fin:∀tk,EP X pins σ Q (.bool (jI t c)) { s with toks:=tk }:=λtk=>⟨.bl (jI t c),H,I.tok tk,rfl,q⟩
 cases xa with
 |non=>cases zW rx;cases r1;cases ht;exact PySem.W.kia_one PySem.W.kitx_none I.kIn True.intro (Qx _ (by simp) hc) (λz=>nomatch z) fin
 |bl i=>cases zd rx;cases r1;cases ht;exact PySem.W.kia_one PySem.W.kitx_bool I.kIn True.intro (Qx _ (by simp) hc) (λz=>nomatch z) fin
 |int i=>cases qC rx;obtain⟨t',rfl⟩:=r1;cases ht;exact PySem.W.kia_one PySem.W.kitx_int I.kIn True.intro (Qx _ (by simp) hc) (λz=>nomatch z) fin
 |str i=>cases zj rx;obtain⟨t',rfl⟩:=r1;cases ht;exact PySem.W.kia_one PySem.W.kitx_str I.kIn True.intro (Qx _ (by simp) hc) (λz=>nomatch z) fin
 |ref i=>
  obtain⟨p,rfl,hp⟩:=qJ rx;cases r1;cases ey:h[i]? with
  |none=>rw[show jC h (.ref i)=none by simp only[jC,ey]]at ht;cases ht
  |some o=>
   cases o with
   |lst fz ys=>
    rw[show jC h (.ref i)=some "list" by simp only[jC,ey]]at ht;cases ht;obtain⟨p',zs,hp',hs,rs⟩:=R.lst (i:=i) (xs:=ys) (by unfold qL;rw[ey]);rw[hp]at hp';cases hp';obtain⟨its,_,pl,_⟩:=I.list hs;obtain⟨o,ho,hcl,_⟩:=pl.isList;exact PySem.W.kia_one PySem.W.kitx_list I.kIn ⟨o,ho,hcl⟩ (Qx _ (by simp) hc) (λz=>nomatch z) fin
   |tup ys=>
    rw[show jC h (.ref i)=some "tuple" by simp only[jC,ey]]at ht;cases ht;obtain⟨p',zs,hp',hs,rs⟩:=R.tup (i:=i) (xs:=ys) (by unfold qg;rw[ey]);rw[hp]at hp';cases hp';obtain⟨its,_,pl,_⟩:=I.tuple hs;obtain⟨o,ho,hcl,_⟩:=pl;exact PySem.W.kia_one PySem.W.kitx_tuple I.kIn ⟨o,ho,hcl⟩ (Qx _ (by simp) hc) (λz=>nomatch z) fin
   |ob ks=>
    cases ks with
    |exn c=>rw[show jC h (.ref i)=none by simp only[jC,ey]]at ht;cases ht
    |dct kvs=>
     rw[show jC h (.ref i)=some "dict" by simp only[jC,ey]]at ht;cases ht;obtain⟨p',hp',hs⟩:=R.at ey;rw[hp]at hp';cases hp';obtain⟨_,_,vs,_,o,es,ep,h1,h2,_⟩:=(show _L.ObjOk X.prog X.w H s.heap p (.dK (kvs.map kk)) from I.hok p _ hs)
     exact PySem.W.kia_one PySem.W.kitx_dict I.kIn ⟨o,h1,h2.1⟩ (Qx _ (by simp) hc) (λz=>nomatch z) fin
 |_=>cases ht
theorem qER{c:String}{xc:Str}{p pc:Pos}(hc:JT c=true)(hg:_L.Gl X "isinstance")(hm:X.mg "isinstance"=none)(hgc:_L.Gl X xc)(hmc:X.mg xc=none)(hvc:bootBuiltins xc=some (.type c))(hn1:xc≠"__name__")(hn2:(xc==("__debug__":Str))=false)
  (hn:qK ea=true) (ha:SE X G F ea a):SE X G F (.Call (.Name "isinstance" p) [ea,.Name xc pc] [] pos) (.isi a [c]):=by
 refine zD (_L.pe_callB (k8 (G:=G) hc) hg hm PyProof.Rows.boot_isinstance (_L.pa_cons ha (_L.pa_cons (_L.pe_bltn (v:=.ty c) hgc hmc hvc rfl hn1 hn2) _L.pa_nil rfl) (qE hn)) (by decide) (by decide) (qE hn) rfl) λσc H Q q=>?_;obtain⟨φ,h,σ,v,h',R,rs,e,k⟩:=q;unfold ev at e;obtain⟨⟨x,h1⟩,e1,e⟩:=tK e;refine⟨φ,h,σ,x,h1,R,rs,e1,λφ1 H1 w x1 R1 r1=>?_⟩;dsimp only at e;split at e
 ·rename_i t et;cases e;refine⟨φ1,_,x,w,t,rfl,R1,r1,et,?_⟩;have:=k φ1 H1 (.bl ([c].any (jI t))) x1 R1 rfl;simpa using this
 ·cases e
noncomputable def Qy:Expr->Bool
 | .Slice ..=>false
 |_=>true
theorem N8{e:Expr}(h:Qy e=true):_L.PlainIx e:=by
 intro o i;cases e<;>first|rfl|cases h
theorem qFF(hb':Qy eb=true)(ha:SE X G F ea a)(hb:SE X G F eb b):SE X G F (.Subscript ea eb pos) (.idx a b):=by
 refine zD (_L.pe_ix (_L.ix_list.or _L.ix_tup) ha hb (N8 hb')) λσc H Q q=>?_;obtain⟨φ,h,σ,v,h',R,rs,e,k⟩:=q;unfold ev at e;obtain⟨⟨x,h1⟩,e1,e⟩:=tK e;obtain⟨⟨y,h2⟩,e2,e⟩:=tK e;refine QF R rs e1 e2 λφ2 H2 xc yc x2 R2 r1 r2=>?_;cases x with
 |ref p=>
  cases y with
  |int i=>
   dsimp only at e;split at e
   ·rename_i xs ex;split at e
    ·rename_i w ew;cases e;obtain⟨p',zs,hp',hs,rs'⟩:=R2.its ex;obtain⟨q,rfl,hq⟩:=qJ r1;rw[hp']at hq;cases hq;cases qC r2;obtain⟨j,ej,ew⟩:=wN.mp ew;obtain⟨w',hw',rw'⟩:=qH rs' ew;have hat:_L.atI zs i=some w':=by
      unfold _L.atI;rw[<-Paired.length rs'];exact wN.mpr ⟨j,ej,hw'⟩
     rcases hs with hs|hs
     ·exact .inl ⟨_,zs,i,w',rfl,rfl,hs,hat,k φ2 H2 w' x2 R2 rw'⟩
     ·exact .inr ⟨_,zs,i,w',rfl,rfl,hs,hat,k φ2 H2 w' x2 R2 rw'⟩
    ·cases e
   ·cases e
  |_=>cases e
 |_=>cases e
theorem Zd{φ:List Addr}{xs ys:List V}(r:rvs φ xs ys)(lo hi:Option Int):rvs φ (_L.cutV xs lo hi) (_L.cutV ys lo hi):=by
 unfold _L.cutV;rw[Paired.length r];exact zu _ (ZK _ r)
variable (X G F) in
def SO(o:Option Expr)(as:Es):Prop:=_L.PO X o λσc H Q=>∃φ h σ is h',Rl X.K G φ h H/\rst φ σ σc/\(∃vs,evs F as σ h=.ok (vs,h')/\jB vs=some is)/\∀φ' H',Ext φ φ'->Rl X.K G φ' h' H'->Q is.head? H'
theorem qCi:SO X G F none .nil:=by
 intro pins s σc H Q I q;obtain⟨φ,h,σ,is,h',R,rs,⟨vs,e,ei⟩,k⟩:=q;unfold evs at e;cases e;cases ei;exact _L.po_none pins s σc H Q I (k φ H (.refl _) R)
theorem qBu(ha:SE X G F ea a):SO X G F (some ea) (.cons a .nil):=by
 intro pins s σc H Q I q;obtain⟨φ,h,σ,is,h',R,rs,⟨vs,e,ei⟩,k⟩:=q;unfold evs at e;obtain⟨⟨x,h1⟩,e1,e⟩:=tK e;unfold evs at e;cases e;refine _L.po_some ha pins s σc H Q I ⟨φ,h,σ,x,_,R,rs,e1,λφ1 H1 w x1 R1 r1=>?_⟩;have hm:=jT ei;cases is with
 |nil=>cases hm
 |cons i r=>
  simp only[List.map_cons,List.cons.injEq]at hm;obtain⟨rfl,_⟩:=hm;cases qC r1;exact⟨i,rfl,k φ1 H1 x1 R1⟩
theorem qEk{lo hi:Option Expr}{al ah:Es}{p2:Pos}(ha:SE X G F ea a)(hl:SO X G F lo al)(hh:SO X G F hi ah):SE X G F (.Subscript ea (.Slice lo hi none p2) pos) (.sl a al ah):=by
 refine zD (_L.pe_slice (_L.SlR.or _L.sl_list _L.sl_tup) ha hl hh) λσc H Q q=>?_;obtain⟨φ,h,σ,v,h',R,rs,e,k⟩:=q;unfold ev at e;obtain⟨⟨x,h1⟩,e1,e⟩:=tK e;obtain⟨⟨l,h2⟩,e2,e⟩:=tK e;obtain⟨⟨u,h3⟩,e3,e⟩:=tK e;cases x with
 |ref p=>
  cases eil:jB l with
  |none=>dsimp only at e;rw[eil]at e;cases e
  |some il=>
   cases eiu:jB u with
   |none=>dsimp only at e;rw[eil,eiu]at e;cases e
   |some iu=>
    dsimp only at e;rw[eil,eiu]at e;dsimp only at e;split at e
    ·rename_i xs ex;cases e;refine⟨φ,h,σ,_,h1,R,rs,e1,λφ1 H1 w x1 R1 r1=>?_⟩;refine⟨φ1,h1,σ,il,h2,R1,rst.mono x1 rs,⟨l,e2,eil⟩,λφ2 H2 x2 R2=>?_⟩;refine⟨φ2,h2,σ,iu,h3,R2,rst.mono (x1.trans x2) rs,⟨u,e3,eiu⟩,λφ3 H3 x3 R3=>?_⟩;obtain⟨p',zs,hp',hs,rs'⟩:=R3.lst ex;obtain⟨q,rfl,hq⟩:=qJ (rv.mono (x2.trans x3) r1);rw[hp']at hq;cases hq;exact .inl ⟨_,zs,rfl,hs,λm hm=>k (φ3++[m]) _ _ ((x1.trans (x2.trans x3)).trans ⟨[m],rfl⟩) (R3.newL hm (Zd rs' _ _)) R3.lastRef⟩
    ·split at e
     ·rename_i xs ex;split at e
      ·cases e
      ·rename_i hw;cases e;refine⟨φ,h,σ,_,h1,R,rs,e1,λφ1 H1 w x1 R1 r1=>?_⟩;refine⟨φ1,h1,σ,il,h2,R1,rst.mono x1 rs,⟨l,e2,eil⟩,λφ2 H2 x2 R2=>?_⟩;refine⟨φ2,h2,σ,iu,h3,R2,rst.mono (x1.trans x2) rs,⟨u,e3,eiu⟩,λφ3 H3 x3 R3=>?_⟩;obtain⟨p',zs,hp',hs,rs'⟩:=R3.tup ex;obtain⟨q,rfl,hq⟩:=qJ (rv.mono (x2.trans x3) r1);rw[hp']at hq;cases hq;exact .inr ⟨_,zs,rfl,hs,by rw[<-Paired.length rs'];exact hw,λm hm=>k (φ3++[m]) _ _ ((x1.trans (x2.trans x3)).trans ⟨[m],rfl⟩) (R3.newT hm (Zd rs' _ _)) R3.lastRef⟩
     ·cases e
 |_=>cases e
theorem qEd{apos cpos:Pos}(hbase:attributeBase ea "append" X.env (eval ea X.env)=eval ea X.env)(hline:(apos.endLine==cpos.line)=true)(hn:qK eb=true)(ha:SE X G F ea a)(hb:SE X G F eb b):
  SE X G F (.Call (.Attribute ea "append" apos) [eb] [] cpos) (.app a b):=by
 refine zD (_L.pe_bm PySem.F.plainAttrs_list PySem.F.slot_list_append PySem.F.type_list_append _L.mt_append ha (_L.pa_cons hb _L.pa_nil (qE hn)) hbase (by rw[qE hn];rfl) hline (qE hn) rfl) λσc H Q q=>?_;obtain⟨φ,h,σ,v,h',R,rs,e,k⟩:=q;unfold ev at e;obtain⟨⟨x,h1⟩,e1,e⟩:=tK e;dsimp only at e;split at e
 ·rename_i p;split at e
  ·rename_i ys ey;obtain⟨⟨y,h2⟩,e2,e⟩:=tK e;dsimp only at e;split at e
   ·rename_i xs ex;split at e
    ·rename_i hl;cases e;refine⟨φ,h,σ,_,h1,R,rs,e1,λφ1 H1 w x1 R1 r1=>?_⟩;obtain⟨p1,zs1,hp1,hs1,_⟩:=R1.lst ey;obtain⟨q,rfl,hq⟩:=qJ r1;rw[hp1]at hq;cases hq;refine⟨.inl ⟨rfl,_,hs1⟩,φ1,h1,σ,y,h2,R1,rst.mono x1 rs,e2,λφ2 H2 yc x2 R2 r2=>?_⟩;obtain⟨q1,p2,zs2,hp2,hH2,rs2⟩:=R2.mut ex;have:=x2.get hp1;rw[hp2]at this;cases this;refine⟨_,zs2,yc,rfl,rfl,hH2,?_,k φ2 _ _ (x1.trans x2) (R2.set q1 hp2 (qR rs2 (.cons r2 .nil))) trivial⟩;rw[<-Paired.length rs2];exact vA hl qBP
    ·cases e
   ·cases e
  ·cases e
 ·cases e
theorem Rl.same{K:PySem.W.Frag}{G φ:List Addr}{h:AH}{H H':Hp}(R:Rl K G φ h H)(s:ZT H H'):Rl K G φ h H':=⟨R.len,R.glob,λi o a e1 e2=>(R.obj i o a e1 e2).keep (.refl _) s,R.inj⟩
theorem Jx{φ:List Addr}:∀{xs:List V},xs.all flat=true->rvs φ xs xs
 | [],_=>.nil
 |x::xs,h=>by
  simp only[List.all_cons,wC]at h;refine .cons ?_ (Jx h.2);cases x<;>first|rfl|exact trivial|(cases h.1)
theorem d8:CallR X (.type "range") (λxs H Q=>∃j:Int,xs=[.int j]/\∀p,H p=none->Q (.ref p) (upd H p (.rng 0 j))):=by
 intro pins s σ H xs us Q I r ⟨j,e,q⟩;subst e;obtain⟨u,rfl,ru⟩:=_L.vals1 r;obtain⟨t,rfl⟩:=ru;refine call_range_1 ⟨.ref s.heap.objs.size,_,I.laid (λ_ _ q=>Heap.get?_push_of_some _ q) (wF _) ?_,rfl,q _ (I.hok.fresh (wF _))⟩;exact⟨_,_,_,Heap.get?_push_size _ rfl⟩
theorem JH{P:Nat->V}:∀{n:Nat}{acc:List Value},acc.length=n->(∀(j:Nat) v,acc[j]?=some v->RelV (P j) v)->Vals ((List.range n).map P) acc:=by
 intro n
 induction n with
 |zero=>intro acc hl _;cases acc with|nil=>exact .nil|cons _ _=>simp at hl
 |succ n ih=>
  intro acc hl ha;have hne:acc≠[]:=by intro z;subst z;simp at hl
  rw[List.range_succ,wy,<-List.dropLast_concat_getLast hne];have hd:acc.dropLast.length=n:=by rw[List.length_dropLast,hl];rfl
  refine qR (ih hd λj v e=>ha j v ?_) (.cons (ha n _ ?_) .nil)
  ·rw[<-List.dropLast_concat_getLast hne,wD (wB.mp e).1];exact e
  ·rw[wE (by omega),List.getLast_eq_getElem];congr 1;simp[hl]
theorem JR(hc:X.calm=true):CallR X (.type "list") (λxs H Q=>∃p,∃j:Int,xs=[.ref p]/\H p=some (.rng 0 j)/\(-1000000<=j/\j<=100000)/\∀l,H l=none->Q (.ref l) (upd H l (.lst (jZ 0 j.toNat)))):=by
 intro pins s σ H xs us Q I r ⟨p,j,e,hp,hj,q⟩;subst e;obtain⟨u,rfl,ru⟩:=_L.vals1 r;cases ru;obtain⟨t,u,v,hr⟩:=I.hok p _ hp;have hn:Builtin.Range.rangeSize 0 j 1=((j.toNat:Nat):Int):=by rw[rangeSize_one];split<;>omega
 refine call_list_range (I.ok.hd hc) hr (small_one (by omega) (by omega) (by omega) (by omega)) hn (by omega) λh' tk acc' c' hk hS hI=>?_;refine⟨.ref s.heap.objs.size,_,I.laid (t':=tk) hk (wF _) ?_,rfl,q _ (I.hok.fresh (wF _))⟩;obtain⟨i1,i2⟩:=hI;refine⟨?_,acc'.toList,c',JH (by simpa using i1) λk v e=>?_,by simpa using hS⟩
 ·have:=ZF;unfold lim at this;rw[jZ,wZ,vf];omega
 ·obtain⟨t',rfl⟩:=i2 k v (by simpa using e);exact⟨t',by rw[Int.mul_one]⟩
theorem qBb{p p2 pos2:Pos}(hc:X.calm=true)(hg:_L.Gl X "list")(hm:X.mg "list"=none)(hg2:_L.Gl X "range")(hm2:X.mg "range"=none)(hn:qK ea=true)(ha:SE X G F ea a):
  SE X G F (.Call (.Name "list" p) [.Call (.Name "range" p2) [ea] [] pos2] [] pos) (.lrng a):=by
 refine zD (_L.pe_callTy (JR hc) hg hm PyProof.Rows.boot_list (_L.pa_cons (_L.pe_callTy d8 hg2 hm2 PyProof.Rows.boot_range (_L.pa_cons ha _L.pa_nil (qE hn)) (by decide) (by decide) (qE hn) rfl) _L.pa_nil rfl) (by decide) (by decide) rfl rfl) λσc H Q q=>?_;obtain⟨φ,h,σ,v,h',R,rs,e,k⟩:=q;unfold ev at e;obtain⟨⟨x,h1⟩,e1,e⟩:=tK e;refine⟨φ,h,σ,x,h1,R,rs,e1,λφ1 H1 w x1 R1 r1=>?_⟩;cases x with
 |int j=>
  dsimp only at e;split at e
  ·rename_i hj;cases e;cases qC r1;refine⟨j,rfl,λp hp=>⟨p,j,rfl,upd_same,hj,λl hl=>?_⟩⟩;have hlp:l≠p:=by rintro rfl;rw[upd_same]at hl;cases hl
   have R2:Rl X.K G φ1 h1 (upd H1 p (.rng 0 j)):=R1.same (JG hp);exact k (φ1++[l]) _ _ (x1.trans ⟨[l],rfl⟩) (R2.newL hl (Jx (by simp[jZ,flat]))) R2.lastRef
  ·cases e
 |_=>cases e
theorem qBt{m:Mt}{r:V->List V->Hp->VK->Prop}{σc:St}{H:Hp}{Q:VK}{as:Es}
  (hr:∀φ h H p ys ws v h' Q,Rl X.K G φ h H->rvs φ ys ws->ZW m p ys h=.ok (v,h')->(∀φ' H' w,Ext φ φ'->Rl X.K G φ' h' H'->rv φ' v w->Q w H')->∀a,φ[p]?=some a->r (.ref a) ws H Q)
  (q:tE X.K G F (.meth m a as) σc H Q):_L.tBM X.K "list" r (tE X.K G F a) (tL X.K G F as) σc H Q:=by
 obtain⟨φ,h,σ,v,h',R,rs,e,k⟩:=q;unfold ev at e;obtain⟨⟨x,h1⟩,e1,e⟩:=tK e;dsimp only at e;split at e
 ·rename_i p;split at e
  ·rename_i ys ey;obtain⟨⟨zs,h2⟩,e2,e⟩:=tK e;refine⟨φ,h,σ,_,h1,R,rs,e1,λφ1 H1 w x1 R1 r1=>?_⟩;obtain⟨p1,zs1,hp1,hs1,_⟩:=R1.lst ey;obtain⟨q,rfl,hq⟩:=qJ r1;rw[hp1]at hq;cases hq;exact⟨.inl ⟨rfl,_,hs1⟩,φ1,h1,σ,zs,h2,R1,rst.mono x1 rs,e2,λφ2 H2 yc x2 R2 r2=>hr φ2 h2 H2 p zs yc v h' Q R2 r2 e (λφ3 H3 w x3 R3 r3=>k φ3 H3 w (x1.trans (x2.trans x3)) R3 r3) _ (x2.get hp1)⟩
  ·cases e
 ·cases e
theorem qAO{m:Mt}{r:V->List V->Hp->VK->Prop}{σc:St}{H:Hp}{Q:VK}
  (hr:∀φ h H p ys ws v h' Q,Rl X.K G φ h H->rvs φ ys ws->ZW m p ys h=.ok (v,h')->(∀φ' H' w,Ext φ φ'->Rl X.K G φ' h' H'->rv φ' v w->Q w H')->∀a,φ[p]?=some a->r (.ref a) ws H Q)
  (q:tE X.K G F (.meth m a .nil) σc H Q):_L.tBM0 X.K "list" r (tE X.K G F a) σc H Q:=by
 obtain⟨φ,h,σ,v,h',R,rs,e,k⟩:=q;unfold ev at e;obtain⟨⟨x,h1⟩,e1,e⟩:=tK e;dsimp only at e;split at e
 ·rename_i p;split at e
  ·rename_i ys ey;obtain⟨⟨zs,h2⟩,e2,e⟩:=tK e;unfold evs at e2;cases e2;refine⟨φ,h,σ,_,h1,R,rs,e1,λφ1 H1 w x1 R1 r1=>?_⟩;obtain⟨p1,zs1,hp1,hs1,_⟩:=R1.lst ey;obtain⟨q,rfl,hq⟩:=qJ r1;rw[hp1]at hq;cases hq;exact⟨.inl ⟨rfl,_,hs1⟩,hr φ1 h1 H1 p [] [] v h' Q R1 .nil e (λφ3 H3 w x3 R3 r3=>k φ3 H3 w (x1.trans x3) R3 r3) _ hp1⟩
  ·cases e
 ·cases e
theorem qAc:∀φ h H p ys ws v h' Q,Rl X.K G φ h H->rvs φ ys ws->ZW .clr p ys h=.ok (v,h')->(∀φ' H' w,Ext φ φ'->Rl X.K G φ' h' H'->rv φ' v w->Q w H')->∀a,φ[p]?=some a->_L.rClear (.ref a) ws H Q:=by
 intro φ h H p ys ws v h' Q R rw' e k a ha;cases ys with
 |cons y ys=>cases e
 |nil=>
  cases rw';unfold ZW at e;dsimp only at e;split at e
  ·rename_i xs ex;cases e;obtain⟨q1,p2,zs2,hp2,hH2,rs2⟩:=R.mut ex;rw[ha]at hp2;cases hp2;exact⟨a,zs2,rfl,rfl,hH2,k φ _ _ (.refl _) (R.set q1 ha .nil) trivial⟩
  ·cases e
section
open _L
def qHK:V->List V->Hp->VK->Prop:=λx vs H Q=>∃l m xs ys,x=.ref l/\vs=[.ref m]/\H l=some (.lst xs)/\H m=some (.lst ys)/\xs.length+ys.length<=100000/\Q .non (upd H l (.lst (xs++ys)))
theorem qEy{X:_L.Cx}:MtM X "list.extend" qHK:=by
 intro pins s σ H x vs v us Q I rx rv h;obtain⟨l,m,xs,ys,rfl,rfl,hH,hM,hlen,q⟩:=h;cases rx;obtain⟨u,rfl,ru⟩:=rv.one;cases ru;obtain⟨z,its,n,r,hl,e⟩:=I.lstM hH;obtain⟨z2,its2,n2,r2,hl2,e2⟩:=I.lstM hM;have b1:its.length=xs.length:=r.length.symm;have b2:its2.length=ys.length:=r2.length.symm;have sz:=sizeLine_eq;refine call_meets F.slot_list_extend ⟨_,e,rfl⟩ F.entry_list_extend (F.args_list_extend_2 _ _)
  (AutoSeq1.list_extend_list_list_0 l its.toArray n m its2.toArray n2 ?_ (by rw[wK];omega) (by rw[wK,wK];omega)) ⟨e,e2,?_⟩
 ·unfold Builtin.List.listTooLong;simp;intro _;omega
 ·refine⟨.non,_,I.lset (its':=its++its2) hH e (by simp) (qR r r2) ?_,rfl,q⟩;rw[wT];omega
end
theorem q8:∀φ h H p ys ws v h' Q,Rl X.K G φ h H->rvs φ ys ws->ZW .ext p ys h=.ok (v,h')->(∀φ' H' w,Ext φ φ'->Rl X.K G φ' h' H'->rv φ' v w->Q w H')->∀a,φ[p]?=some a->qHK (.ref a) ws H Q:=by
 intro φ h H p ys ws v h' Q R rw' e k a ha;unfold ZW at e;split at e
 all_goals first|(rename_i z _ _;cases z;done)|(rename_i z _;cases z;done)|(rename_i z;cases z;done)|skip
 ·cases rw' with
  |cons r1 t=>
   cases t;obtain⟨q0,rfl,hq0⟩:=qJ r1;split at e
   ·rename_i xs ex;split at e
    ·rename_i ys ey;split at e
     ·rename_i hc;cases e;obtain⟨q1,p2,zs2,hp2,hH2,rs2⟩:=R.mut ex;rw[ha]at hp2;cases hp2;obtain⟨q3,p3,zs3,hp3,hH3,rs3⟩:=R.mut ey;rw[hq0]at hp3;cases hp3;have l2:=Paired.length rs2;have l3:=Paired.length rs3;have hcl:xs.length+ys.length<=100000:=hc.2;refine⟨a,_,_,_,rfl,rfl,hH2,hH3,by rw[<-l2,<-l3];exact hcl,k φ _ _ (.refl _) (R.set q1 ha (qR rs2 rs3)) trivial⟩
     ·cases e
    ·cases e
   ·cases e
 ·cases e
theorem qEK{apos cpos:Pos}(hbase:attributeBase ea "extend" X.env (eval ea X.env)=eval ea X.env)(hline:(apos.endLine==cpos.line)=true)(hn:qK eb=true)(ha:SE X G F ea a)(hb:SE X G F eb b):
  SE X G F (.Call (.Attribute ea "extend" apos) [eb] [] cpos) (.meth .ext a (.cons b .nil)):=
 zD (_L.pe_bm PySem.F.plainAttrs_list PySem.F.slot_list_extend PySem.F.type_list_extend qEy ha (JJ hn hb X5) hbase (by rw[qE hn];rfl) hline (qE hn) rfl) λ_ _ _=>qBt q8
theorem qCf{apos cpos:Pos}(hbase:attributeBase ea "clear" X.env (eval ea X.env)=eval ea X.env)(hline:(apos.endLine==cpos.line)=true)(ha:SE X G F ea a):SE X G F (.Call (.Attribute ea "clear" apos) [] [] cpos) (.meth .clr a .nil):=
 zD (_L.pe_bm0 PySem.F.plainAttrs_list PySem.F.slot_list_clear PySem.F.type_list_clear _L.mt_clear ha hbase hline) λ_ _ _=>qAO qAc
end
theorem qB7{φ:List Addr}{v w w':V}(a:rv φ v w)(b:rv φ v w'):w=w':=by
 cases v with
 |ref i=>
  obtain⟨x,rfl,e1⟩:=qJ a;obtain⟨y,rfl,e2⟩:=qJ b;rw[e1]at e2;cases e2;rfl
 |int i=>rw[qC a,qC b]
 |bl i=>rw[zd a,zd b]
 |str i=>rw[zj a,zj b]
 |non=>rw[zW a,zW b]
 |_=>cases w<;>cases a
theorem Qh{φ:List Addr}:∀{vs ws ws':List V},rvs φ vs ws->rvs φ vs ws'->ws=ws'
 |_,_,_,.nil,.nil=>rfl
 |_,_,_,.cons a r,.cons b s=>by rw[qB7 a b,Qh r s]
theorem Rl.pre{K:PySem.W.Frag}{G φ φ':List Addr}{h h2:AH}{H0 H1:Hp}(R0:Rl K G φ h H0)(R1:Rl K G φ' h2 H1)(x:Ext φ φ')(ht:h2.take h.length=h):Rl K G φ h H1:=by
 have up:∀{i:Nat}{o:O},h[i]?=some o->h2[i]?=some o:=λ{i o} e=>by
  have hi:=(wB.mp e).1;rw[<-ht,vN hi]at e;exact e
 refine⟨R0.len,R0.glob,λi o a e ea=>?_,λi j u y a m1 m2 e1 e2 e3 e4=>R1.inj i j u y a m1 m2 (up e1) (up e2) (x.get e3) (x.get e4)⟩;have r1:=R1.obj i o a (up e) (x.get ea);have r0:=R0.obj i o a e ea
 match o,r0,r1 with
 | .lst false xs,⟨ys,_,p⟩,⟨ys',e',p'⟩=>rw[Qh p' (rvs.mono x p)]at e';exact⟨ys,e',p⟩
 | .lst true xs,⟨ys,_,p⟩,⟨ys',e',p'⟩=>rw[Qh p' (rvs.mono x p)]at e';exact⟨ys,e',p⟩
 | .tup xs,⟨ys,_,p⟩,⟨ys',e',p'⟩=>rw[Qh p' (rvs.mono x p)]at e';exact⟨ys,e',p⟩
 | .ob (.dct _),_,e'=>exact e'
 | .ob (.exn _),_,e'=>exact e'
open _L (It JF ZU)
abbrev Zf(h:Heap)(z ti to:Addr)(f0 f1:Value):Prop:=
 h.get? z=some { cls:=.type "zip",dict:=none,data:=.fields #[f0,f1,.bool false,.ref ti,.ref to],slots:=#[] }
section
variable{P:Program}{w:World}{K:Type}[DecidableEq K]{knd:KeyKind P w K}{A:Around}{E:Value->Shared->Prop}{z ti to i1 i2 a b d:Addr}{xs ys:Array Value}
def Left(knd:KeyKind P w K)(xs ys:Array Value)(k:Nat)(L:List (K×Value)):Prop:=
 (∀j p,L[j]?=some p->∃x,xs[k+j]?=some x/\knd.is p.1 x=true/\ys[k+j]?=some p.2)/\(xs[k+L.length]?=none\/ys[k+L.length]?=none)
theorem Left.next{k:Nat}{p:K×Value}{L:List (K×Value)}(h:Left knd xs ys k (p::L)):(∃x,xs[k]?=some x/\knd.is p.1 x=true/\ys[k]?=some p.2)/\Left knd xs ys (k+1) L:=by
 refine⟨by simpa using h.1 0 p rfl,λj q e=>?_,?_⟩
 ·have:=h.1 (j+1) q (by simpa using e);rw[show k+(j+1)=k+1+j by omega]at this;exact this
 ·have:=h.2;rw[List.length_cons,show k+(L.length+1)=k+1+L.length by omega]at this;exact this
noncomputable def qHE(kvs L:List (K×Value)):List (K×Value):=L.foldl (λacc p=>stored acc p.1 p.2) kvs
end
noncomputable def Itz(K:PySem.W.Frag)(a b:Addr):It:=
 ⟨λi H=>∃xs ys x y,SqL K H a xs/\SqL K H b ys/\xs[i]?=some x/\ys[i]?=some y,
  λi H v H'=>∃p x y,H p=none/\v=.ref p/\H'=upd H p (.tup [x,y])/\(∀xs,SqL K H a xs->xs[i]?=some x)/\∀ys,SqL K H b ys->ys[i]?=some y,
  λi H=>∃xs ys,SqL K H a xs/\SqL K H b ys/\(xs.length<=i\/ys.length<=i)⟩
theorem U1{X:Cx}{pins:List (Addr×Obj)}{σ:_L.St}{H:Hp}{s:Shared}{h':Heap}{T:Addr}{xs:List V}{its:List Value}{ch:List Addr}{t':Nat}(I:Inv X pins σ H s)(hf:∀b∈ch,ZU X pins H b)
  (hT:s.heap.objs.size<=T) (k:∀b o,b∉ch->s.heap.get? b=some o->h'.get? b=some o) (hp:IsTup h' T its.toArray) (hv:Vals xs its) (hz:xs.length<=sizeLine) (hTc:T∉ch):
  Inv X pins σ (upd H T (.tup xs)) { s with heap:=h',toks:=t' }:=by
 have hn:H T=none:=I.hok.fresh hT;have neT:∀b o,s.heap.get? b=some o->b≠T:=λb o e=>wX (wH (Heap.lt_size e) hT);refine I.step (g':=s.gens) (d':=s.drawn) (ch:=ch) (λb hb=>⟨(hf b hb).2.2.2.1,(hf b hb).2.1,(hf b hb).2.2.2.2.1,(hf b hb).2.2.2.2.2⟩) (λb o _ _ hc e _=>k b o hc e) (λb o _ _ hc e _=>⟨o.slots,k b o hc e⟩)
  (λb o _ e n=>by rw[upd_ne (neT b o e)];exact n) (λb o hc e=>⟨o,k b o hc e⟩) (λb ys e=>by rw[upd_ne (_L.ne_of_none e hn)];exact e) (λb o u e=>by rw[upd_ne (_L.ne_of_none e hn)];exact e)
  (λb ps e=>⟨#[],by rw[upd_ne (_L.ne_of_none e hn),e];simp⟩) (λm hm=>?_) (λb u e=>?_) I.bare
 ·obtain⟨o,es,ep,ho,r⟩:=hm;exact⟨o,es,ep,k _ o (λz=>(hf _ z).2.1 rfl) ho,r⟩
 ·by_cases hb:b=T
  ·subst hb;rw[upd_same]at e;cases e;exact⟨hz,its,hv,hp⟩
  ·rw[upd_ne hb]at e;have nc:∀c u,H c=some u->c∉ch:=λc u q z=>by rw[(hf c z).1]at q;cases q
   refine(I.hok b u e).stay (λc v hc q=>k c v ?_ q) (λc q=>by rw[upd_ne (_L.ne_of_none q hn)];exact q) λc ys q=>by rw[upd_ne (_L.ne_of_none q hn)];exact q
   rcases hc with z|z
   ·rw[z];exact nc b u e
   ·exact nc c _ z
theorem m9{P:Program}{w:World}{K:PySem.W.Frag}{elts:List Expr}{kk:Nat}{tpos:Pos}(z TI TO i1 i2 a b:Addr)(D:ZipApart z TI TO i1 i2 a b):
  JF P w K (.Tuple elts kk tpos) (Itz K a b) [z,TI,TO,i1,i2] z (λi h=>IsZip h z TI TO .none/\IsPair h TI (.ref i1) (.ref i2)/\(∃x y,IsPair h TO x y)/\h.IsListIter i1 a i/\h.IsListIter i2 b i) where
 mem:=by simp
 obj:=λi h st c hc=>by
  obtain⟨h1,h2,⟨x,y,h3⟩,⟨o4,e4,c4,d4⟩,⟨o5,e5,c5,d5⟩⟩:=st;simp only[wL,wg,or_false]at hc;rcases hc with rfl|rfl|rfl|rfl|rfl
  ·exact⟨_,h1,λv q=>by have q':Data.fields _=Data.cell v:=q;cases q'⟩
  ·exact⟨_,h2,λv q=>by have q':Data.seq _ _=Data.cell v:=q;cases q'⟩
  ·exact⟨_,h3,λv q=>by have q':Data.seq _ _=Data.cell v:=q;cases q'⟩
  ·exact⟨o4,e4,λv q=>by rw[d4]at q;cases q⟩
  ·exact⟨o5,e5,λv q=>by rw[d5]at q;cases q⟩
 keep:=λi h h' st k=>by
  obtain⟨h1,h2,⟨x,y,h3⟩,h4,h5⟩:=st;exact⟨k z (by simp) _ h1,k TI (by simp) _ h2,⟨x,y,k TO (by simp) _ h3⟩,h4.at λo e=>k i1 (by simp) o e,h5.at λo e=>k i2 (by simp) o e⟩
 item:=by
  intro X hP hw hK hc i pins s σ H E I hf st hg;subst hP hw hK;obtain⟨xs,ys,x,y,hq1,hq2,hx,hy⟩:=hg;obtain⟨its1,rv1,p1,_⟩:=I.list hq1;obtain⟨its2,rv2,p2,_⟩:=I.list hq2;obtain⟨u,hu,ru⟩:=rv1.get hx;obtain⟨w',hw',rw'⟩:=rv2.get hy;obtain⟨h1,h2,⟨ta,tb,h3⟩,h4,h5⟩:=st;refine wpAny_pyNext_zip_item D h1 h2 h3 h4 h5 p1.isList p2.isList (x:=u) (y:=w') (by simpa using hu) (by simpa using hw') λh' z1 z2 z3 z4 z5 z6 z7=>?_;refine⟨_,rfl,wpAny_letOwnedTupleGo_zip z1 λh'' g1 gs=>?_⟩;have lt:∀c∈[z,TI,TO,i1,i2],c≠s.heap.objs.size:=λc hc=>by
   have ex:∃o,s.heap.get? c=some o:=by
    simp only[wL,wg,or_false]at hc;rcases hc with rfl|rfl|rfl|rfl|rfl
    ·exact⟨_,h1⟩
    ·exact⟨_,h2⟩
    ·exact⟨_,h3⟩
    ·obtain⟨o,e,_⟩:=h4;exact⟨o,e⟩
    ·obtain⟨o,e,_⟩:=h5;exact⟨o,e⟩
   obtain⟨o,e⟩:=ex;exact wX (Heap.lt_size e)
  have up:∀c o,c≠z->h'.get? c=some o->h''.get? c=some o:=λc o hz e=>gs.extBut c o hz e;have kp:∀c o,c∉[z,TI,TO,i1,i2]->s.heap.get? c=some o->h''.get? c=some o:=λc o hn e=>by
   simp only[wL,wg,or_false,not_or]at hn;exact up c o hn.1 (z7 c o hn.1 hn.2.2.1 hn.2.2.2.1 hn.2.2.2.2 e)
  have ht:IsTup h'' s.heap.objs.size #[u,w']:=⟨_,up _ _ (Ne.symm (lt z (by simp))) z5,rfl,_,rfl⟩
  have I1:=U1 (t':=s.toks) (xs:=[x,y]) (its:=[u,w']) I hf (wF _) kp ht (.cons ru (.cons rw' .nil)) (by show 2<=sizeLine;decide) (λq=>lt _ q rfl);refine⟨.ref s.heap.objs.size,_,I1,rfl,⟨s.heap.objs.size,x,y,I.hok.fresh (wF _),rfl,rfl,λzs hz=>by rw[I.list_inj hz hq1];exact hx,λzs hz=>by rw[I.list_inj hz hq2];exact hy⟩,
   ⟨g1,up _ _ D.TIz (z7 TI _ D.TIz D.TITO D.TIi1 D.TIi2 h2),⟨_,_,up _ _ D.TOz z2⟩,z3.at λo e=>up _ o D.i1z e,z4.at λo e=>up _ o D.i2z e⟩,λc hc=>?_⟩
  rw[upd_ne (lt c hc)];exact(hf c hc).1
 done:=by
  intro X hP hw hK hc i pins s σ H E I hf st hg;subst hP hw hK;obtain⟨xs,ys,hq1,hq2,hl⟩:=hg;obtain⟨its1,rv1,p1,_⟩:=I.list hq1;obtain⟨its2,rv2,p2,_⟩:=I.list hq2;obtain⟨h1,h2,⟨ta,tb,h3⟩,h4,h5⟩:=st;have n1:=rv1.length;have n2:=rv2.length;refine wpAny_pyNext_zip_end (I.ok.hd hc) D h1 h2 h3 h4 h5 p1.isList p2.isList ?_ λh' z7=>⟨rfl,?_⟩
  ·rcases hl with hl|hl
   ·left;simp;omega
   ·right;simp;omega
  ·have kp:∀c o,c∉[z,TI,TO,i1,i2]->s.heap.get? c=some o->h'.get? c=some o:=λc o hn e=>by
    simp only[wL,wg,or_false,not_or]at hn;exact z7 c o hn.1 hn.2.2.1 hn.2.2.2.1 hn.2.2.2.2 e
   refine I.step (g':=s.gens) (d':=s.drawn) (t':=s.toks) (ch:=[z,TI,TO,i1,i2]) (λb hb=>⟨(hf b hb).2.2.2.1,(hf b hb).2.1,(hf b hb).2.2.2.2.1,(hf b hb).2.2.2.2.2⟩) (λb o _ _ hc e _=>kp b o hc e) (λb o _ _ hc e _=>⟨o.slots,kp b o hc e⟩)
    (λb o _ e n=>n) (λb o hc e=>⟨o,kp b o hc e⟩) (λb ys e=>e) (λb o u e=>e) (λb ps e=>⟨#[],by rw[e];simp⟩) (λm hm=>?_) (λb u e=>?_) I.bare
   ·obtain⟨o,es,ep,ho,r⟩:=hm;exact⟨o,es,ep,kp _ o (λz=>(hf _ z).2.1 rfl) ho,r⟩
   ·have nc:∀c u,H c=some u->c∉[z,TI,TO,i1,i2]:=λc u q z=>by rw[(hf c z).1]at q;cases q
    refine(I.hok b u e).stay (λc v hc q=>kp c v ?_ q) (λc q=>q) λc ys q=>q;rcases hc with z|z
    ·rw[z];exact nc b u e
    ·exact nc c _ z
 self:=λ_ _ _ _ _ st h=>wpAny_pyIter_zip st.1 h
noncomputable def qHr(K:PySem.W.Frag)(ta:TA):_L.TI:=λσ H R=>ta σ H λvs H1=>∃a b,vs=[.ref a,.ref b]/\(∃xs,SqL K H1 a xs)/\(∃ys,SqL K H1 b ys)/\R (Itz K a b) H1
theorem qDO{X:Cx}{ea eb:Expr}{ta:TA}{p pos tpos:Pos}{elts:List Expr}{kk:Nat}(hg:_L.Gl X "zip")(hm:X.mg "zip"=none)(ha:PA X [ea,eb] ta)(h1:qK ea=true)(h2:qK eb=true):
  _L._P X (.Tuple elts kk tpos) (.Call (.Name "zip" p) [ea,eb] [] pos) (qHr X.K ta):=by
 intro pins s σ H R I h;refine Call_ (_L.ld_blt I hg hm PyProof.Rows.boot_zip (PyProof.Rows.callWith_type1 (_L.thn (ha pos pins s σ H _ I h) λus s1 ⟨vs,H1,I1,r1,q1⟩=>?_) (qE h1) (zh (by simp[h2]))));obtain⟨a,b,e,⟨xs,hq1⟩,⟨ys,hq2⟩,q⟩:=q1;subst e;cases r1 with
 |cons r rr=>
  cases rr with
  |cons r' rr=>
   cases rr;cases r;cases r';obtain⟨its1,rv1,p1,_⟩:=I1.list hq1;obtain⟨its2,rv2,p2,_⟩:=I1.list hq2;have a1:a<s1.heap.objs.size:=by obtain⟨_,e,_⟩:=p1.isList;exact Heap.lt_size e
   have a2:b<s1.heap.objs.size:=by obtain⟨_,e,_⟩:=p2.isList;exact Heap.lt_size e
   refine call_zip_2 p1.isList p2.isList λh' hz hTI hTO hi1 hi2 _ hk=>?_;refine wpAny_pyIter_zip hz ?_;have I2:Inv X pins σ H1 { s1 with heap:=h' }:=I1.kept (t':=s1.toks) hk;refine⟨_,_,_,_,H1,rfl,I2,m9 _ _ _ _ _ a b (zipApart_new a1 a2),⟨hz,hTI,⟨_,_,hTO⟩,hi1,hi2⟩,λc hc=>?_,q⟩;have hge:s1.heap.objs.size<=c:=by
    simp only[wL,wg,or_false]at hc;rcases hc with rfl|rfl|rfl|rfl|rfl
    ·exact vH _ 4
    ·exact vH _ 2
    ·exact vH _ 3
    ·exact wF _
    ·exact vH _ 1
   exact I1.fpOk hge (I1.hok.fresh hge)
abbrev Tu(h:Heap)(T:Addr)(vs:Array Value):Prop:=h.get? T=some { cls:=.type "tuple",data:=.seq vs }
section
variable{P:Program}{w:World}{A:Around}{E:Value->Shared->Prop}{s:Shared}{z ti to i1 i2 i3 a b c:Addr}{f0:Value}{k1 k2 k3:Nat}{xs ys us:Array Value}{p q r:Value}
def Kp(z to i1 i2 i3:Addr)(h g:Heap):Prop:=g.objs.size=h.objs.size/\∀c o,c∉[z,to,i1,i2,i3]->h.get? c=some o->g.get? c=some o
theorem Kp.step{h g g':Heap}{d:Addr}(k:Kp z to i1 i2 i3 h g)(hd:d∈[z,to,i1,i2,i3])(e:Heap.SameBut d g g'):Kp z to i1 i2 i3 h g':=
 ⟨by rw[e.1,k.1],λc o hc ho=>e.extBut c o (λx=>hc (x ▸ hd)) (k.2 c o hc ho)⟩
end
noncomputable def Ite(K:PySem.W.Frag)(a:Addr):It:=
 ⟨λi H=>∃xs x,SqL K H a xs/\xs[i]?=some x,
  λi H v H'=>∃p x,H p=none/\v=.ref p/\H'=upd H p (.tup [.int (i:Int),x])/\∀xs,SqL K H a xs->xs[i]?=some x,
  λi H=>∃xs,SqL K H a xs/\xs.length<=i⟩
theorem g8{P:Program}{w:World}{K:PySem.W.Frag}{elts:List Expr}{kk:Nat}{tpos:Pos}(e it a:Addr)(hei:e≠it):
  JF P w K (.Tuple elts kk tpos) (Ite K a) [e,it] e (λi h=>(∃old,IsEnum h e it i old)/\h.IsListIter it a i) where
 mem:=by simp
 obj:=λi h st c hc=>by
  obtain⟨⟨old,h1⟩,⟨o4,e4,c4,d4⟩⟩:=st;simp only[wL,wg,or_false]at hc;rcases hc with rfl|rfl
  ·exact⟨_,h1,λv q=>by have q':Data.fields _=Data.cell v:=q;cases q'⟩
  ·exact⟨o4,e4,λv q=>by rw[d4]at q;cases q⟩
 keep:=λi h h' st k=>by
  obtain⟨⟨old,h1⟩,h4⟩:=st;exact⟨⟨old,k e (by simp) _ h1⟩,h4.at λo x=>k it (by simp) o x⟩
 item:=by
  intro X hP hw hK hc i pins s σ H E I hf st hg;subst hP hw hK;obtain⟨xs,x,hq1,hx⟩:=hg;obtain⟨its1,rv1,p1,_⟩:=I.list hq1;obtain⟨u,hu,ru⟩:=rv1.get hx;obtain⟨⟨old,h1⟩,h4⟩:=st;refine wpAny_pyNext_enum_item h1 h4 p1.isList (x:=u) (by simpa using hu) hei λh' z1 z3 z5 z6 z7=>?_;refine⟨_,rfl,wpAny_letOwnedTupleGo_enum z1 λh'' g1 gs=>?_⟩;have lt:∀c∈[e,it],c≠s.heap.objs.size:=λc hc=>by
   have ex:∃o,s.heap.get? c=some o:=by
    simp only[wL,wg,or_false]at hc;rcases hc with rfl|rfl
    ·exact⟨_,h1⟩
    ·obtain⟨o,e,_⟩:=h4;exact⟨o,e⟩
   obtain⟨o,e⟩:=ex;exact wX (Heap.lt_size e)
  have up:∀c o,c≠e->h'.get? c=some o->h''.get? c=some o:=λc o hz q=>gs.extBut c o hz q;have kp:∀c o,c∉[e,it]->s.heap.get? c=some o->h''.get? c=some o:=λc o hn q=>by
   simp only[wL,wg,or_false,not_or]at hn;exact up c o hn.1 (z7 c o hn.1 hn.2 q)
  have ht:IsTup h'' s.heap.objs.size #[.int i s.toks,u]:=⟨_,up _ _ (Ne.symm (lt e (by simp))) z5,rfl,_,rfl⟩
  have I1:=U1 (t':=s.toks+1) (xs:=[.int (i:Int),x]) (its:=[.int i s.toks,u]) I hf (wF _) kp ht (.cons ⟨_,rfl⟩ (.cons ru .nil)) (by show 2<=sizeLine;decide) (λq=>lt _ q rfl);refine⟨.ref s.heap.objs.size,_,I1,rfl,⟨s.heap.objs.size,x,I.hok.fresh (wF _),rfl,rfl,λzs hz=>by rw[I.list_inj hz hq1];exact hx⟩,
   ⟨⟨_,by simpa using g1⟩,z3.at λo q=>up _ o (Ne.symm hei) q⟩,λc hc=>?_⟩
  rw[upd_ne (lt c hc)];exact(hf c hc).1
 done:=by
  intro X hP hw hK hc i pins s σ H E I hf st hg;subst hP hw hK;obtain⟨xs,hq1,hl⟩:=hg;obtain⟨its1,rv1,p1,_⟩:=I.list hq1;obtain⟨⟨old,h1⟩,h4⟩:=st;have n1:=rv1.length;obtain⟨f0,f1,f2,f3,f4,f5⟩:=hf it (by simp);exact wpAny_pyNext_enum_end (I.ok.hd hc) h1 h4 p1.isList (by simp;omega) λh' eb=>⟨rfl,I.turned (t':=s.toks) (λb o hb q=>eb b o hb q) f0 f1 f3 f4 f5⟩
 self:=λ_ i s Q E st hQ=>by
  obtain⟨⟨old,h1⟩,h4⟩:=st;exact wpAny_pyIter_enum h1 hQ
noncomputable def qGV(K:PySem.W.Frag)(ta:TA):_L.TI:=λσ H R=>ta σ H λvs H1=>∃a,vs=[.ref a]/\(∃xs,SqL K H1 a xs)/\R (Ite K a) H1
theorem qC3{X:Cx}{ea:Expr}{ta:TA}{p pos tpos:Pos}{elts:List Expr}{kk:Nat}(hg:_L.Gl X "enumerate")(hm:X.mg "enumerate"=none)(ha:PA X [ea] ta)(h1:qK ea=true):
  _L._P X (.Tuple elts kk tpos) (.Call (.Name "enumerate" p) [ea] [] pos) (qGV X.K ta):=by
 intro pins s σ H R I h;refine Call_ (_L.ld_blt I hg hm PyProof.Rows.boot_enumerate (PyProof.Rows.callWith_type1 (_L.thn (ha pos pins s σ H _ I h) λus s1 ⟨vs,H1,I1,r1,q1⟩=>?_) (qE h1) (zh (by simp))));obtain⟨a,e,⟨xs,hq1⟩,q⟩:=q1;subst e;cases r1 with
 |cons r rr=>
  cases rr;cases r;obtain⟨its1,rv1,p1,_⟩:=I1.list hq1;refine call_enumerate_list p1.isList λh' he hi hsz hk=>?_;refine wpAny_pyIter_enum he ?_;have I2:Inv X pins σ H1 { s1 with heap:=h' }:=I1.kept (t':=s1.toks) hk;refine⟨_,_,_,_,H1,rfl,I2,g8 _ _ a (Nat.succ_ne_self _),⟨⟨_,he⟩,hi⟩,λc hc=>?_,q⟩;have hge:s1.heap.objs.size<=c:=by
   simp only[wL,wg,or_false]at hc;rcases hc with rfl|rfl
   ·exact vH _ 1
   ·exact wF _
  exact I1.fpOk hge (I1.hok.fresh hge)
noncomputable def Itv(K:PySem.W.Frag)(a:Addr)(n:Nat):It:=
 ⟨λi H=>i<n/\∃xs x,SqL K H a xs/\xs[n-1-i]?=some x,λi H x H'=>H'=H/\∀xs,SqL K H a xs->xs[n-1-i]?=some x,λi _=>i=n⟩
theorem w6{P:Program}{w:World}{K:PySem.W.Frag}{tg:Expr}(a it:Addr)(n:Nat):JF P w K tg (Itv K a n) [it] it (λi h=>h.IsRevIter it a ((n:Int)-1-(i:Int))) where
 mem:=by simp
 obj:=λi h st b hb=>by
  have e:b=it:=by simpa using hb
  subst e;obtain⟨o,e,c,d⟩:=st;exact⟨o,e,λv z=>by rw[d]at z;cases z⟩
 keep:=λi h h' st k=>st.at λo e=>k it (by simp) o e
 item:=by
  intro X hP hw hK hc i pins s σ H E I hf st hg;subst hP hw hK;obtain⟨hi,xs,x,hq,hx⟩:=hg;obtain⟨its,rv,p,hz⟩:=I.list hq;obtain⟨u,hu,ru⟩:=rv.get hx;obtain⟨f0,f1,f2,f3,f4,f5⟩:=hf it (by simp);have e:(n:Int)-1-(i:Int)=((n-1-i:Nat):Int):=by omega
  rw[e]at st;refine wpAny_pyNext_rev_item st p.isList (x:=u) (by simpa using hu) λh' st' sb=>?_;have e2:((n-1-i:Nat):Int)-1=(n:Int)-1-((i+1:Nat):Int):=by omega
  rw[e2]at st';have I1:Inv X pins σ H { s with heap:=h' }:=I.turned (t':=s.toks) (λb o hb e=>(sb.2 b hb).trans e) f0 f1 f3 f4 f5;obtain⟨o,e,c,d⟩:=id st';exact⟨u,rfl,_L.go_of (s:={ s with heap:=h' }) e c d (by decide) ⟨x,H,I1,ru,⟨rfl,λys hy=>by rw[I.list_inj hy hq];exact hx⟩,st',λb hb=>(hf b hb).1⟩⟩
 done:=by
  intro X hP hw hK hc i pins s σ H E I hf st hg;subst hP hw hK;cases hg;obtain⟨f0,f1,f2,f3,f4,f5⟩:=hf it (by simp);have e:(n:Int)-1-(n:Int)=-1:=by omega
  rw[e]at st;exact wpAny_pyNext_rev_end (I.ok.hd hc) st λh' eb=>⟨rfl,I.turned (t':=s.toks) (λb o hb e=>eb b o hb e) f0 f1 f3 f4 f5⟩
 self:=λ_ _ _ _ _ st h=>wpAny_pyIter_revIter st h
noncomputable def qHg(K:PySem.W.Frag)(ta:TA):_L.TI:=λσ H R=>ta σ H λvs H1=>∃a xs,vs=[.ref a]/\SqL K H1 a xs/\R (Itv K a xs.length) H1
theorem qEm{X:Cx}{ea tg:Expr}{ta:TA}{p pos:Pos}(hg:_L.Gl X "reversed")(hm:X.mg "reversed"=none)(ha:PA X [ea] ta)(h1:qK ea=true):
  _L._P X tg (.Call (.Name "reversed" p) [ea] [] pos) (qHg X.K ta):=by
 intro pins s σ H R I h;refine Call_ (_L.ld_blt I hg hm PyProof.Rows.boot_reversed (PyProof.Rows.callWith_type1 (_L.thn (ha pos pins s σ H _ I h) λus s1 ⟨vs,H1,I1,r1,q1⟩=>?_) (qE h1) (zh (by simp))));obtain⟨a,xs,e,hq1,q⟩:=q1;subst e;cases r1 with
 |cons r rr=>
  cases rr;cases r;obtain⟨its1,rv1,p1,_⟩:=I1.list hq1;refine call_reversed_list p1.isList ?_;have hk:∀b o,s1.heap.get? b=some o->(s1.heap.push (revObj a ((its1.toArray.size:Int)-1))).get? b=some o:=λb o e=>Heap.get?_push_of_some _ e;have hit:(s1.heap.push (revObj a ((its1.toArray.size:Int)-1))).IsRevIter s1.heap.objs.size a ((xs.length:Int)-1-((0:Nat):Int)):=by
   refine⟨_,Heap.get?_push_size _ rfl,rfl,?_⟩;have:((its1.toArray.size:Nat):Int)-1=(xs.length:Int)-1-((0:Nat):Int):=by rw[rv1.length];simp
   rw[<-this];rfl
  refine wpAny_pyIter_revIter hit ?_;have I2:Inv X pins σ H1 { s1 with heap:=s1.heap.push (revObj a ((its1.toArray.size:Int)-1)) }:=I1.kept (t':=s1.toks) hk;refine⟨_,_,_,_,H1,rfl,I2,w6 a _ xs.length,hit,λc hc=>?_,q⟩;have e:c=s1.heap.objs.size:=by simpa using hc
  subst e;exact I1.fpOk (wF _) (I1.hok.fresh (wF _))
open _L (PGs TG TGs Itl Itt B6)
section
variable (K:PySem.W.Frag)(G:List Addr)
noncomputable def tG(g:Tg):TG:=λv σc H Q=>∃φ h σ w σ',Rl K G φ h H/\rst φ σ σc/\rv φ w v/\store g w σ h=some σ'/\∀σc',rst φ σ' σc'->Q σc' H
noncomputable def tGs(is:List Nat):TGs:=λvs σc H Q=>∃φ σ ws σ',rst φ σ σc/\rvs φ ws vs/\Zo is ws σ=some σ'/\∀σc',rst φ σ' σc'->Q σc' H
end
section
variable{X:Cx}{G:List Addr}{F:Nat->List V->AH->RV}
theorem qDt{e:Expr}{t t':TG}(h:PG X e t)(w:∀v σ H Q,t' v σ H Q->t v σ H Q):PG X e t':=λpins s σ H v u Q I r q=>h pins s σ H v u Q I r (w v σ H Q q)
theorem qAs{e:List Expr}{t t':TGs}(h:PGs X e t)(w:∀v σ H Q,t' v σ H Q->t v σ H Q):PGs X e t':=λpins s σ H v u Q I r q=>h pins s σ H v u Q I r (w v σ H Q q)
variable (X G) in
abbrev SG(e:Expr)(g:Tg):Prop:=PG X e (tG X.K G g)
theorem Y1{i:Nat}{x:Str}{pos:Pos}(hN:X.N.Nodup)(hi:X.N[i]?=some x)(hx:_L.Loc X.env.scope x)(hf:X.fn x=true\/X.env.scope.names.lookup x=some .local):SG X G (.Name x pos) (.name i):=by
 refine qDt (_L.pg_name hN hi hx hf) λv σc H Q q=>?_;obtain⟨φ,h,σ,w,σ',R,rs,r,e,k⟩:=q;unfold store at e;cases e;exact k _ (qz (R:=ropt φ) (show ropt φ (some w) (some v) from⟨v,rfl,r⟩) i rs)
theorem qCm:PGs X [] (tGs []):=by
 refine qAs _L.pgs_nil λvs σc H Q q=>?_;obtain⟨φ,σ,ws,σ',rs,r,e,k⟩:=q;cases ws with
 |nil=>
  cases r;cases e;exact⟨rfl,k _ rs⟩
 |cons _ _=>cases e
theorem qAa{i:Nat}{is:List Nat}{x:Str}{pos:Pos}{es:List Expr}(hN:X.N.Nodup)(hi:X.N[i]?=some x)(hx:_L.Loc X.env.scope x)(hf:X.fn x=true\/X.env.scope.names.lookup x=some .local)(hs:PGs X es (tGs is)):
  PGs X (.Name x pos::es) (tGs (i::is)):=by
 refine qAs (_L.pgs_cons (_L.pg_name hN hi hx hf) hs rfl) λvs σc H Q q=>?_;obtain⟨φ,σ,ws,σ',rs,r,e,k⟩:=q;cases ws with
 |nil=>cases e
 |cons w ws=>
  cases r with
  |cons r1 rr=>exact⟨_,_,rfl,φ,_,ws,σ',qz (R:=ropt φ) (show ropt φ (some w) (some _) from⟨_,rfl,r1⟩) i rs,rr,e,k⟩
theorem Ze:∀{is:List Nat}{xs:List V}{σ σ':St},Zo is xs σ=some σ'->xs.length=is.length
 | [],[],_,_,_=>rfl
 | [],_::_,_,_,e=>by cases e
 |_::_,[],_,_,e=>by cases e
 |i::is,x::xs,σ,σ',e=>by
  have:=Ze (show Zo is xs _=some σ' from e);simp[this]
theorem qEW{is:List Nat}{es:List Expr}{k:Nat}{pos:Pos}(hc:X.calm=true)(h:PGs X es (tGs is))(hn:(assignEach es X.env).length=is.length)(hst:(assignEach es X.env).findIdx? (·.1)=none):SG X G (.Tuple es k pos) (.tup is):=by
 refine qDt (_L.pg_tup hc h hn hst) λv σc H Q q=>?_;obtain⟨φ,h,σ,w,σ',R,rs,r,e,k⟩:=q;cases w with
 |ref a=>
  unfold store at e;dsimp only at e;split at e
  ·rename_i xs ex;obtain⟨p,zs,hp,hs,rz⟩:=R.tup ex;obtain⟨q,rfl,hq⟩:=qJ r;rw[hp]at hq;cases hq;exact⟨_,zs,rfl,hs,by rw[<-Paired.length rz];exact Ze e,φ,σ,xs,σ',rs,rz,e,k⟩
  ·cases e
 |_=>cases e
def IsJ(K:PySem.W.Frag)(φ:List Addr):Src->It->Prop
 | .list p,J=>∃a,φ[p]?=some a/\J=Itl K a
 | .tupl p,J=>∃a,φ[p]?=some a/\J=Itt K a
 | .rng lo n,J=>J=_L.Itr lo n
 | .zip p q,J=>∃a b,φ[p]?=some a/\φ[q]?=some b/\J=Itz K a b
 | .enum p,J=>∃a,φ[p]?=some a/\J=Ite K a
 | .rvd p n,J=>∃a,φ[p]?=some a/\J=Itv K a n
theorem IsJ.mono{K:PySem.W.Frag}{φ φ':List Addr}(x:Ext φ φ'):∀{s:Src}{J:It},IsJ K φ s J->IsJ K φ' s J
 | .list _,_,⟨a,h,e⟩=>⟨a,x.get h,e⟩
 | .tupl _,_,⟨a,h,e⟩=>⟨a,x.get h,e⟩
 | .rng _ _,_,e=>e
 | .zip _ _,_,⟨a,b,h,g,e⟩=>⟨a,b,x.get h,x.get g,e⟩
 | .enum _,_,⟨a,h,e⟩=>⟨a,x.get h,e⟩
 | .rvd _ _,_,⟨a,h,e⟩=>⟨a,x.get h,e⟩
section
variable{K:PySem.W.Frag}{φ:List Addr}{h h1:AH}{H H':Hp}{s:Src}{J:It}{i:Nat}{x v:V}
theorem IsJ.stop(j:IsJ K φ s J)(R:Rl K G φ h H)(e:jd h i s=true):J.stop i H:=by
 cases s with
 |list p=>
  obtain⟨a,ha,rfl⟩:=j;unfold jd at e;dsimp only at e;split at e
  ·rename_i xs ex;obtain⟨q,zs,hq,hs,rz⟩:=R.lst ex;rw[ha]at hq;cases hq;exact⟨zs,hs,by rw[<-Paired.length rz];exact uI e⟩
  ·cases e
 |tupl p=>
  obtain⟨a,ha,rfl⟩:=j;unfold jd at e;dsimp only at e;split at e
  ·rename_i xs ex;obtain⟨q,zs,hq,hs,rz⟩:=R.tup ex;rw[ha]at hq;cases hq;exact⟨zs,hs,by rw[<-Paired.length rz];exact uI e⟩
  ·cases e
 |rng lo n=>
  cases j;show n<=i;exact uI e
 |zip p q=>
  obtain⟨a,b,ha,hb,rfl⟩:=j;unfold jd at e;dsimp only at e;split at e
  ·rename_i xs ys ex ey;obtain⟨a',zs,hq,hs,rz⟩:=R.lst ex;obtain⟨b',ws,hq',hs',rz'⟩:=R.lst ey;rw[ha]at hq;cases hq;rw[hb]at hq';cases hq';exact⟨zs,ws,hs,hs',by rw[<-Paired.length rz,<-Paired.length rz'];exact uI e⟩
  ·cases e
 |enum p=>
  obtain⟨a,ha,rfl⟩:=j;unfold jd at e;dsimp only at e;split at e
  ·rename_i xs ex;obtain⟨q,zs,hq,hs,rz⟩:=R.lst ex;rw[ha]at hq;cases hq;exact⟨zs,hs,by rw[<-Paired.length rz];exact uI e⟩
  ·cases e
 |rvd p n=>
  obtain⟨a,ha,rfl⟩:=j;show i=n;exact uI e
theorem IsJ.go(j:IsJ K φ s J)(R:Rl K G φ h H)(e:qt h i s=some (x,h1)):J.go i H:=by
 cases s with
 |list p=>
  obtain⟨a,ha,rfl⟩:=j;unfold qt at e;dsimp only at e;split at e
  ·rename_i xs ex;obtain⟨y,ey,e2⟩:=wA.mp e;obtain⟨q,zs,hq,hs,rz⟩:=R.lst ex;rw[ha]at hq;cases hq;obtain⟨z,hz,_⟩:=qH rz ey;exact⟨zs,z,hs,hz⟩
  ·cases e
 |tupl p=>
  obtain⟨a,ha,rfl⟩:=j;unfold qt at e;dsimp only at e;split at e
  ·rename_i xs ex;obtain⟨y,ey,e2⟩:=wA.mp e;obtain⟨q,zs,hq,hs,rz⟩:=R.tup ex;rw[ha]at hq;cases hq;obtain⟨z,hz,_⟩:=qH rz ey;exact⟨zs,z,hs,hz⟩
  ·cases e
 |rng lo n=>
  cases j;unfold qt at e;dsimp only at e;split at e
  ·rename_i hl;exact hl
  ·cases e
 |zip p q=>
  obtain⟨a,b,ha,hb,rfl⟩:=j;unfold qt at e;dsimp only at e;split at e
  ·rename_i xs ys ex ey;split at e
   ·rename_i u w eu ew;obtain⟨a',zs,hq,hs,rz⟩:=R.lst ex;obtain⟨b',ws,hq',hs',rz'⟩:=R.lst ey;rw[ha]at hq;cases hq;rw[hb]at hq';cases hq';obtain⟨z,hz,_⟩:=qH rz eu;obtain⟨z',hz',_⟩:=qH rz' ew;exact⟨zs,ws,z,z',hs,hs',hz,hz'⟩
   ·cases e
  ·cases e
 |enum p=>
  obtain⟨a,ha,rfl⟩:=j;unfold qt at e;dsimp only at e;split at e
  ·rename_i xs ex;obtain⟨y,ey,e2⟩:=wA.mp e;obtain⟨q,zs,hq,hs,rz⟩:=R.lst ex;rw[ha]at hq;cases hq;obtain⟨z,hz,_⟩:=qH rz ey;exact⟨zs,z,hs,hz⟩
  ·cases e
 |rvd p n=>
  obtain⟨a,ha,rfl⟩:=j;unfold qt at e;dsimp only at e;split at e
  ·rename_i hi;split at e
   ·rename_i xs ex;obtain⟨y,ey,e2⟩:=wA.mp e;obtain⟨q,zs,hq,hs,rz⟩:=R.lst ex;rw[ha]at hq;cases hq;obtain⟨z,hz,_⟩:=qH rz ey;exact⟨hi,zs,z,hs,hz⟩
   ·cases e
  ·cases e
theorem IsJ.yld(j:IsJ K φ s J)(R:Rl K G φ h H)(e:qt h i s=some (x,h1))(y:J.yld i H v H'):∃φ',Ext φ φ'/\Rl K G φ' h1 H'/\rv φ' x v:=by
 cases s with
 |list p=>
  obtain⟨a,ha,rfl⟩:=j;unfold qt at e;dsimp only at e;split at e
  ·rename_i xs ex;obtain⟨y',ey,e2⟩:=wA.mp e;cases e2;obtain⟨q,zs,hq,hs,rz⟩:=R.lst ex;rw[ha]at hq;cases hq;obtain⟨z,hz,rz'⟩:=qH rz ey;obtain⟨rfl,k⟩:=y;have:=k zs hs;rw[hz]at this;cases this;exact⟨φ,.refl _,R,rz'⟩
  ·cases e
 |tupl p=>
  obtain⟨a,ha,rfl⟩:=j;unfold qt at e;dsimp only at e;split at e
  ·rename_i xs ex;obtain⟨y',ey,e2⟩:=wA.mp e;cases e2;obtain⟨q,zs,hq,hs,rz⟩:=R.tup ex;rw[ha]at hq;cases hq;obtain⟨z,hz,rz'⟩:=qH rz ey;obtain⟨rfl,k⟩:=y;have:=k zs hs;rw[hz]at this;cases this;exact⟨φ,.refl _,R,rz'⟩
  ·cases e
 |rng lo n=>
  cases j;unfold qt at e;dsimp only at e;split at e
  ·cases e;obtain⟨rfl,rfl⟩:=y;exact⟨φ,.refl _,R,rfl⟩
  ·cases e
 |zip p q=>
  obtain⟨a,b,ha,hb,rfl⟩:=j;unfold qt at e;dsimp only at e;split at e
  ·rename_i xs ys ex ey;split at e
   ·rename_i u w eu ew;cases e;obtain⟨a',zs,hq,hs,rz⟩:=R.lst ex;obtain⟨b',ws,hq',hs',rz'⟩:=R.lst ey;rw[ha]at hq;cases hq;rw[hb]at hq';cases hq';obtain⟨z,hz,r1⟩:=qH rz eu;obtain⟨z',hz',r2⟩:=qH rz' ew;obtain⟨p',x',y',hn,rfl,rfl,k1,k2⟩:=y;have t1:=k1 zs hs;have t2:=k2 ws hs';rw[hz]at t1;cases t1;rw[hz']at t2;cases t2;exact⟨φ++[p'],⟨[p'],rfl⟩,R.newT hn (.cons r1 (.cons r2 .nil)),R.lastRef⟩
   ·cases e
  ·cases e
 |enum p=>
  obtain⟨a,ha,rfl⟩:=j;unfold qt at e;dsimp only at e;split at e
  ·rename_i xs ex;obtain⟨y',ey,e2⟩:=wA.mp e;cases e2;obtain⟨q,zs,hq,hs,rz⟩:=R.lst ex;rw[ha]at hq;cases hq;obtain⟨z,hz,r1⟩:=qH rz ey;obtain⟨p',x',hn,rfl,rfl,k⟩:=y;have:=k zs hs;rw[hz]at this;cases this;exact⟨φ++[p'],⟨[p'],rfl⟩,R.newT hn (.cons rfl (.cons r1 .nil)),R.lastRef⟩
  ·cases e
 |rvd p n=>
  obtain⟨a,ha,rfl⟩:=j;unfold qt at e;dsimp only at e;split at e
  ·split at e
   ·rename_i xs ex;obtain⟨y',ey,e2⟩:=wA.mp e;cases e2;obtain⟨q,zs,hq,hs,rz⟩:=R.lst ex;rw[ha]at hq;cases hq;obtain⟨z,hz,rz'⟩:=qH rz ey;obtain⟨rfl,k⟩:=y;have:=k zs hs;rw[hz]at this;cases this;exact⟨φ,.refl _,R,rz'⟩
   ·cases e
  ·cases e
end
variable (G F) in
noncomputable def tI(K:PySem.W.Frag)(it:Itr):_L.TI:=λσc H R=>∃φ h σ s h',Rl K G φ h H/\rst φ σ σc/\evi F it σ h=.ok (s,h')/\∀φ' H' J,Ext φ φ'->Rl K G φ' h' H'->IsJ K φ' s J->R J H'
variable (X G F) in
abbrev SI(tg iter:Expr)(it:Itr):Prop:=_L._P X tg iter (tI G F X.K it)
theorem U6{tg e:Expr}{t t':_L.TI}(h:_L._P X tg e t)(w:∀σ H Q,t' σ H Q->t σ H Q):_L._P X tg e t':=λpins s σ H Q I q=>h pins s σ H Q I (w σ H Q q)
variable{a b:E}{ea eb tg:Expr}{pos p:Pos}
noncomputable def qIC(K:PySem.W.Frag)(tl:TE):_L.TI:=λσ H R=>tl σ H λx H1=>∃a,x=.ref a/\(((∃xs,SqL K H1 a xs)/\R (Itl K a) H1)\/((∃xs,SqT K H1 a xs)/\R (Itt K a) H1))
theorem qEx{l:Expr}{tl:TE}(hl:PE X l tl):_L._P X tg l (qIC X.K tl):=by
 intro pins s σ H R I h;refine _L.thn (hl pins s σ H _ I h) λv s1 ⟨x,H1,I1,r1,q1⟩=>?_;obtain⟨a,e,q⟩:=q1;subst e;cases r1;rcases q with⟨⟨xs,hq⟩,q⟩|⟨⟨xs,hq⟩,q⟩
 ·obtain⟨its,rv,p,hz⟩:=I1.list hq;refine wpAny_pyIter_list p.isList ?_;refine⟨s1.heap.objs.size,[s1.heap.objs.size],_,_,H1,rfl,I1.kept (t':=s1.toks) λb o e=>Heap.get?_push_of_some _ e,_L.turn_list a _,⟨_,Heap.get?_push_size _ rfl,rfl,rfl⟩,λb hb=>?_,q⟩;have e:b=s1.heap.objs.size:=by simpa using hb
  subst e;exact I1.fpOk (wF _) (I1.hok.fresh (wF _))
 ·obtain⟨its,rv,p,hz⟩:=I1.tuple hq;refine wpAny_pyIter_tuple (show s1.heap.IsTuple a its.toArray from p) ?_;refine⟨s1.heap.objs.size,[s1.heap.objs.size],_,_,H1,rfl,I1.kept (t':=s1.toks) λb o e=>Heap.get?_push_of_some _ e,_L.turn_tuple a _,⟨_,Heap.get?_push_size _ rfl,rfl,rfl⟩,λb hb=>?_,q⟩;have e:b=s1.heap.objs.size:=by simpa using hb
  subst e;exact I1.fpOk (wF _) (I1.hok.fresh (wF _))
theorem W2(ha:SE X G F ea a):SI X G F tg ea (.list a):=by
 refine U6 (qEx ha) λσc H Q q=>?_;obtain⟨φ,h,σ,s,h',R,rs,e,k⟩:=q;unfold evi at e;obtain⟨⟨x,h1⟩,e1,e⟩:=tK e;refine⟨φ,h,σ,x,h1,R,rs,e1,λφ1 H1 w x1 R1 r1=>?_⟩;cases x with
 |ref p=>
  dsimp only at e;cases ey:h1[p]? with
  |none=>rw[ey]at e;cases e
  |some o=>
   cases o with
   |lst fz ys=>
    rw[ey]at e;cases e;obtain⟨q,zs,hq,hs,rz⟩:=R1.lst (i:=p) (xs:=ys) (by unfold qL;rw[ey]);obtain⟨q',rfl,hq'⟩:=qJ r1;rw[hq]at hq';cases hq';exact⟨_,rfl,.inl ⟨⟨zs,hs⟩,k φ1 H1 _ x1 R1 ⟨_,hq,rfl⟩⟩⟩
   |tup ys=>
    rw[ey]at e;cases e;obtain⟨q,zs,hq,hs,rz⟩:=R1.tup (i:=p) (xs:=ys) (by unfold qg;rw[ey]);obtain⟨q',rfl,hq'⟩:=qJ r1;rw[hq]at hq';cases hq';exact⟨_,rfl,.inr ⟨⟨zs,hs⟩,k φ1 H1 _ x1 R1 ⟨_,hq,rfl⟩⟩⟩
   |ob ks=>rw[ey]at e;cases e
 |_=>cases e
theorem qBl(hg:_L.Gl X "range")(hm:X.mg "range"=none)(hn:qK ea=true)(ha:SE X G F ea a):SI X G F tg (.Call (.Name "range" p) [ea] [] pos) (.rng1 a):=by
 refine U6 (_L.pi_range1 hg hm (_L.pa_cons ha _L.pa_nil (qE hn)) (qE hn)) λσc H Q q=>?_;obtain⟨φ,h,σ,s,h',R,rs,e,k⟩:=q;unfold evi at e;obtain⟨⟨x,h1⟩,e1,e⟩:=tK e;refine⟨φ,h,σ,x,h1,R,rs,e1,λφ1 H1 w x1 R1 r1=>?_⟩;cases x with
 |int j=>
  dsimp only at e;split at e
  ·rename_i hj;cases e;cases qC r1;exact⟨j,rfl,by omega,by omega,k φ1 H1 _ x1 R1 rfl⟩
  ·cases e
 |_=>cases e
theorem qCD{elts:List Expr}{kk:Nat}{tpos:Pos}(hg:_L.Gl X "enumerate")(hm:X.mg "enumerate"=none)(hn:qK ea=true)(ha:SE X G F ea a):
  SI X G F (.Tuple elts kk tpos) (.Call (.Name "enumerate" p) [ea] [] pos) (.enum a):=by
 refine U6 (qC3 hg hm (_L.pa_cons ha _L.pa_nil (qE hn)) hn) λσc H Q q=>?_;obtain⟨φ,h,σ,s,h',R,rs,e,k⟩:=q;unfold evi at e;obtain⟨⟨x,h1⟩,e1,e⟩:=tK e;refine⟨φ,h,σ,x,h1,R,rs,e1,λφ1 H1 w x1 R1 r1=>?_⟩;cases x with
 |ref p=>
  dsimp only at e;split at e
  ·rename_i xs ex;cases e;obtain⟨q,zs,hq,hs,rz⟩:=R1.lst ex;obtain⟨q',rfl,hq'⟩:=qJ r1;rw[hq]at hq';cases hq';exact⟨_,rfl,⟨zs,hs⟩,k φ1 H1 _ x1 R1 ⟨_,hq,rfl⟩⟩
  ·cases e
 |_=>cases e
theorem qCa(hg:_L.Gl X "reversed")(hm:X.mg "reversed"=none)(hn:qK ea=true)(ha:SE X G F ea a):
  SI X G F tg (.Call (.Name "reversed" p) [ea] [] pos) (.revd a):=by
 refine U6 (qEm hg hm (_L.pa_cons ha _L.pa_nil (qE hn)) hn) λσc H Q q=>?_;obtain⟨φ,h,σ,s,h',R,rs,e,k⟩:=q;unfold evi at e;obtain⟨⟨x,h1⟩,e1,e⟩:=tK e;refine⟨φ,h,σ,x,h1,R,rs,e1,λφ1 H1 w x1 R1 r1=>?_⟩;cases x with
 |ref p=>
  dsimp only at e;split at e
  ·rename_i xs ex;cases e;obtain⟨q,zs,hq,hs,rz⟩:=R1.lst ex;obtain⟨q',rfl,hq'⟩:=qJ r1;rw[hq]at hq';cases hq';exact⟨_,zs,rfl,hs,k φ1 H1 _ x1 R1 ⟨_,hq,by rw[<-Paired.length rz]⟩⟩
  ·cases e
 |_=>cases e
theorem qDW{elts:List Expr}{kk:Nat}{tpos:Pos}(hg:_L.Gl X "zip")(hm:X.mg "zip"=none)(hn:qK ea=true)(hn2:qK eb=true)(ha:SE X G F ea a)(hb:SE X G F eb b):
  SI X G F (.Tuple elts kk tpos) (.Call (.Name "zip" p) [ea,eb] [] pos) (.zip a b):=by
 refine U6 (qDO hg hm (_L.pa_cons ha (_L.pa_cons hb _L.pa_nil (qE hn2)) (qE hn)) hn hn2) λσc H Q q=>?_;obtain⟨φ,h,σ,s,h',R,rs,e,k⟩:=q;unfold evi at e;obtain⟨⟨x,h1⟩,e1,e⟩:=tK e;obtain⟨⟨y,h2⟩,e2,e⟩:=tK e;refine QF R rs e1 e2 λφ2 H2 xc yc x2 R2 r1 r2=>?_;cases x with
 |ref i=>
  cases y with
  |ref j=>
   dsimp only at e;split at e
   ·rename_i xs ys ex ey;cases e;obtain⟨a',zs,hq,hs,rz⟩:=R2.lst ex;obtain⟨b',ws,hq',hs',rz'⟩:=R2.lst ey;obtain⟨a2,rfl,ha2⟩:=qJ r1;obtain⟨b2,rfl,hb2⟩:=qJ r2;rw[hq]at ha2;cases ha2;rw[hq']at hb2;cases hb2;exact⟨_,_,rfl,⟨zs,hs⟩,⟨ws,hs'⟩,k φ2 H2 _ x2 R2 ⟨_,_,hq,hq',rfl⟩⟩
   ·cases e
  |_=>cases e
 |_=>cases e
end
section
variable{X:Cx}{G:List Addr}{F:Nat->List V->AH->RV}
theorem qD3{φ:List Addr}:∀{v w w':V},rv φ v w->rv φ v w'->w=w'
 | .ref _,w,w',h,g=>by
  obtain⟨a,e1,h1⟩:=qJ h;obtain⟨b,e2,g1⟩:=qJ g;rw[h1]at g1;cases g1;rw[e1,e2]
 | .non,_,_,h,g=>by rw[zW h,zW g]
 | .bl _,_,_,h,g=>by rw[zd h,zd g]
 | .int _,_,_,h,g=>by rw[qC h,qC g]
 | .str _,_,_,h,g=>by rw[zj h,zj g]
 | .byt _,w,_,h,_=>by cases w<;>exact False.elim h
 | .flt _,w,_,h,_=>by cases w<;>exact False.elim h
 | .ty _,w,_,h,_=>by cases w<;>exact False.elim h
theorem E3{φ:List Addr}:∀{vs ws us:List V},rvs φ vs ws->rvs φ vs us->ws=us
 |_,_,_,.nil,.nil=>rfl
 |_,_,_,.cons r t,.cons r' t'=>by rw[qD3 r r',E3 t t']
theorem ZB{φ:List Addr}{σ σc:St}(r:rst φ σ σc):∀src,rst φ (_L.inner src σ) (_L.inner src σc)
 | []=>.nil
 |none::src=>.cons trivial (ZB r src)
 |some j::src=>by
  refine .cons ?_ (ZB r src);show ropt φ (σ[j]?).join (σc[j]?).join;cases e:σ[j]? with
  |none=>exact trivial
  |some o=>
   cases o with
   |none=>exact trivial
   |some v=>
    obtain⟨oc,ec,r'⟩:=qH r e;obtain⟨w,rfl,r'⟩:=r';rw[ec];exact⟨w,rfl,r'⟩
variable (X G F) in
abbrev SC(ifs:List Expr)(c:Es):Prop:=_L.PTs X ifs (tB X.K G (evc F c))
theorem qDr:SC X G F [] .nil:=by
 intro pins s σ H Q I q;obtain⟨φ,h,σa,b,h',R,rs,e,k⟩:=q;unfold evc at e;cases e;exact _L.pts_nil pins s σ H Q I (k φ H (.refl _) R)
theorem qEc{c:Expr}{a:E}(hc:ST X G F c a):SC X G F [c] (.cons a .nil):=by
 intro pins s σ H Q I q;obtain⟨φ,h,σa,b,h',R,rs,e,k⟩:=q;unfold evc at e;exact _L.pts_one hc pins s σ H Q I ⟨φ,h,σa,b,h',R,rs,e,k⟩
theorem j3{it:Itr}{src:List (Option Nat)}{g:Tg}{c:Es}{e:E}{σc:St}{H:Hp}{Q:VK}(q:tE X.K G F (.comp it src g c e) σc H Q):
  _L.tComp (tI G F X.K it) src (tG X.K G g) (tB X.K G (evc F c)) (tE X.K G F e) σc H Q:=by
 obtain⟨φ,h,σ,v,h',R,rs,ee,k⟩:=q;unfold ev at ee;obtain⟨⟨s,h1⟩,e1,ee⟩:=tK ee;refine⟨φ,h,σ,s,h1,R,rs,e1,λφ1 H1 J x1 R1 j1=>?_⟩;dsimp only at ee;split at ee
 ·rename_i n hn;intro D hD;have R2:Rl X.K G (φ1++[D]) (h1++[.lst false []]) (upd H1 D (.lst [])):=R1.newL hD .nil;have hDφ:(φ1++[D])[h1.length]?=some D:=R1.lastRef;refine⟨λi m ys σ' H'=>∃φ' h2 σa ya,Ext (φ1++[D]) φ'/\Rl X.K G φ' h2 H'/\rst φ' σa σ'/\rvs φ' ya ys/\h2[h1.length]?=some (.lst false ya)/\Qw s g (evc F c) (ev F e) h1.length m i ya σa h2=.ok (v,h'),
   ⟨n,φ1++[D],_,_,[],.refl _,R2,ZB (rst.mono (x1.trans ⟨[D],rfl⟩) rs) src,.nil,by simp,ee⟩,?_⟩
  rintro i m ys σ' H' ⟨φ',h2,σa,ya,x2,Ra,rsa,rya,hya,ec⟩ hys;have jj:IsJ X.K φ' s J:=j1.mono (Ext.trans ⟨[D],rfl⟩ x2);have hDφ':=x2.get hDφ;cases m with
  |zero=>
   unfold Qw at ec;split at ec
   ·rename_i hst;cases ec;exact .inl ⟨jj.stop Ra hst,k φ' H' _ ((x1.trans ⟨[D],rfl⟩).trans x2) Ra hDφ'⟩
   ·cases ec
  |succ m=>
   unfold Qw at ec;split at ec
   ·rename_i x h3 hy;split at ec
    ·rename_i σ3 hst;refine .inr ⟨jj.go Ra hy,λxv H2 hyl=>?_⟩;obtain⟨φ3,x3,R3,rx⟩:=jj.yld Ra hy hyl;refine⟨φ3,h3,σa,x,σ3,R3,rst.mono x3 rsa,rx,hst,λσc3 rs3=>?_⟩;obtain⟨⟨t,h4⟩,e4,ec⟩:=tK ec;refine⟨φ3,h3,σ3,t,h4,R3,rs3,e4,λφ4 H4 x4 R4=>?_⟩;dsimp only at ec;cases t with
     |true=>
      rw[if_pos rfl]at ec ⊢;obtain⟨⟨y,h5⟩,e5,ec⟩:=tK ec;refine⟨φ4,h4,σ3,y,h5,R4,rst.mono x4 rs3,e5,λφ5 H5 yc x5 R5 r5=>?_⟩;dsimp only at ec;split at ec
      ·rename_i hc5;have xx:Ext φ' φ5:=x3.trans (x4.trans x5);have hD5:=xx.get hDφ';obtain⟨zs,hz,rz⟩:=R5.obj _ _ D hc5.1 hD5;have ez:zs=ys:=E3 rz (rvs.mono xx rya);subst ez;refine⟨hz,by rw[<-Paired.length rz];exact vA hc5.2 qBP,m,vW _,φ5,_,σ3,_,x2.trans xx,R5.set hc5.1 hD5 (qR rz (.cons r5 .nil)),rst.mono (x4.trans x5) rs3,qR rz (.cons r5 .nil),?_,ec⟩;rw[wn (wB.mp hc5.1).1]
      ·cases ec
     |false=>
      rw[if_neg (by decide)]at ec ⊢;split at ec
      ·rename_i hc4;have xx:Ext φ' φ4:=x3.trans x4;have hD4:=xx.get hDφ';obtain⟨zs,hz,rz⟩:=R4.obj _ _ D hc4 hD4;have ez:zs=ys:=E3 rz (rvs.mono xx rya);subst ez;exact⟨hz,m,vW _,φ4,_,σ3,_,x2.trans xx,R4,rst.mono x4 rs3,rz,hc4,ec⟩
      ·cases ec
    ·cases ec
   ·cases ec
 ·cases ee
end
section
variable{X:Cx}{G:List Addr}{F:Nat->List V->AH->RV}{a b c:E}{ea eb ec tg:Expr}{pos:Pos}
theorem W7{iter elt:Expr}{ifs:List Expr}{scope:Scope}{N:List Str}{it:Itr}{src:List (Option Nat)}{g:Tg}{cs:Es}{e:E}(hc:X.calm=true)(hi:SI X G F tg iter it)(S:_L.CompScope X scope N src)
  (hg:∀C fp s H,SG (_L.cxComp X scope C fp s H N) G tg g) (ht:∀C fp s H,SC (_L.cxComp X scope C fp s H N) G F ifs cs) (he:∀C fp s H,SE (_L.cxComp X scope C fp s H N) G F elt e)
  (hs:∀x,foldedSetIterable iter X.env x=pure x):SE X G F (.ListComp elt [⟨tg,iter,ifs,0⟩] scope pos) (.comp it src g cs e):=
 zD (_L.pe_comp hc hi S hg ht he hs) λ_ _ _=>j3
def Post(K:PySem.W.Frag)(G:List Addr)(D:B6)(φ:List Addr)(o:Out)(h':AH):Prop:=∀φ' H',Ext φ φ'->Rl K G φ' h' H'->match o with
 | .nx σ=>∀σc,rst φ' σ σc->D.nx σc H'
 | .rt v=>∀w,rv φ' v w->D.rt w H'
 | .bk σ=>∀σc,rst φ' σ σc->D.bk σc H'
 | .ct σ=>∀σc,rst φ' σ σc->D.ct σc H'
theorem Post.mono{K:PySem.W.Frag}{D:B6}{φ φ1:List Addr}{o:Out}{h':AH}(x:Ext φ φ1)(p:Post K G D φ o h'):Post K G D φ1 o h':=λφ' H' x' R=>p φ' H' (x.trans x') R
noncomputable def tS(K:PySem.W.Frag)(G:List Addr)(r:St->AH->RS):TS:=λD σc H=>∃φ h σ o h',Rl K G φ h H/\rst φ σ σc/\r σ h=.ok (o,h')/\Post K G D φ o h'
variable (X G F) in
abbrev SS(st:Stmt)(s:S):Prop:=PS X st (tS X.K G (ex F s))
variable (X G F) in
abbrev SSs(st:List Stmt)(s:Ss):Prop:=PSs X st (tS X.K G (exs F s))
theorem Qt{e:Stmt}{t t':TS}(h:PS X e t)(w:∀D σ H,t' D σ H->t D σ H):PS X e t':=λpins s σ H D I q=>h pins s σ H D I (w D σ H q)
theorem qBA{e:List Stmt}{t t':TS}(h:PSs X e t)(w:∀D σ H,t' D σ H->t D σ H):PSs X e t':=λpins s σ H D I q=>h pins s σ H D I (w D σ H q)
theorem qV{st:Stmt}:SS X G F st .stop:=by
 intro pins s σ H D I q;obtain⟨φ,h,σa,o,h',R,rs,e,k⟩:=q;unfold ex at e;cases e
noncomputable def jo:Expr->Bool
 | .ListComp ..=>false
 | .SetComp ..=>false
 | .DictComp ..=>false
 |_=>true
theorem jl{e:Expr}{t:Option Expr}{l:Nat}{env:Env}(h:jo e=true):swapsWith e t l env=pure false:=by
 cases e<;>first|rfl|cases h
theorem QK{e t:Expr}{l:Nat}{env:Env}(h:jo e=true):swapsWithSole [t] e l env=pure false:=jl h
theorem qCW{K:PySem.W.Frag}{σ:St}{H:Hp}{Q Q':VK}(q:tE K G F a σ H Q)(w:∀v H,Q v H->Q' v H):tE K G F a σ H Q':=by
 obtain⟨φ,h,σa,v,h',R,rs,e,k⟩:=q;exact⟨φ,h,σa,v,h',R,rs,e,λφ' H' u x' R' r'=>w u H' (k φ' H' u x' R' r')⟩
theorem U2{g:Tg}{D:B6}{σc:St}{H:Hp}(q:tS X.K G (ex F (.asg g a)) D σc H):_L.tAsg (tE X.K G F a) (tG X.K G g) D σc H:=by
 obtain⟨φ,h,σ,o,h',R,rs,e,k⟩:=q;unfold ex at e;obtain⟨⟨x,h1⟩,e1,e⟩:=tK e;dsimp only at e;split at e
 ·rename_i σ1 es;cases e;exact⟨φ,h,σ,x,_,R,rs,e1,λφ1 H1 w x1 R1 r1=>⟨φ1,_,σ,x,σ1,R1,rst.mono x1 rs,r1,es,λσc' rs'=>k φ1 H1 x1 R1 σc' rs'⟩⟩
 ·cases e
theorem qDX{i j:Nat}{x y:Str}{ea eb:Expr}{a b:E}{px py pt pt2:Pos}{kt k2:Nat}(hc:X.calm=true)(hN:X.N.Nodup)(hi:X.N[i]?=some x)(hj:X.N[j]?=some y)(hij:i≠j)
  (hx:X.env.scope.names.lookup x=some .local) (hy:X.env.scope.names.lookup y=some .local) (h:SA X G F [ea,eb] (.cons a (.cons b .nil)))
  (hw:swappedStores [.Tuple [.Name x px,.Name y py] kt pt] (.Tuple [ea,eb] k2 pt2) X.env=pure (some [x,y])):
  SS X G F (.Assign [.Tuple [.Name x px,.Name y py] kt pt] (.Tuple [ea,eb] k2 pt2) pos) (.par i j a b):=by
 refine Qt (_L.ps_par hc hN hi hj hij hx hy h hw (QK rfl)) λD σc H q=>?_;obtain⟨φ,h,σ,o,h',R,rs,e,k⟩:=q;unfold ex at e;obtain⟨⟨x1,h1⟩,e1,e⟩:=tK e;obtain⟨⟨y1,h2⟩,e2,e⟩:=tK e;cases e;refine⟨φ,h,σ,[x1,y1],h',R,rs,?_,λφ1 H1 ws xx R1 r1=>?_⟩
 ·unfold evs evs evs;rw[e1];show ((ev F b σ h1).bind λp=>Res.ok ([p.1],p.2)).bind _=_;rw[e2];rfl
 ·cases r1 with
  |cons p q=>
   cases q with
   |cons p' q'=>
    cases q';have rs1:=qz (R:=ropt φ1) (show ropt φ1 (some x1) (some _) from⟨_,rfl,p⟩) i (rst.mono xx rs);exact⟨_,_,rfl,k φ1 H1 xx R1 _ (qz (R:=ropt φ1) (show ropt φ1 (some y1) (some _) from⟨_,rfl,p'⟩) j rs1)⟩
theorem qCE{ea eb:Expr}(f:Expr->Bool)(hf:∀e,qK e=true->f e=false)(h1:qK ea=true)(h2:qK eb=true):[ea,eb].any f=false:=by
 simp[hf _ h1,hf _ h2]
theorem C1{x y:Str}{ea eb:Expr}{px py pt pt2:Pos}{kt k2:Nat}{env:Env}(hb:env.blockKind=.function)(hx:env.scope.names.lookup x=some .local)(hy:env.scope.names.lookup y=some .local)(hl:py.line=px.line)(hxy:x≠y)
  (h1:qK ea=true) (h2:qK eb=true) (hf:[ea,eb].all (foldedForSure 8)=false) (hk:[ea,eb].all (constantsAlone 8)=false):
  swappedStores [.Tuple [.Name x px,.Name y py] kt pt] (.Tuple [ea,eb] k2 pt2) env=pure (some [x,y]):=by
 have hd:[x,y].eraseDups.length=2:=by
  have:(y==x)=false:=by simpa using λe=>hxy e.symm
  simp[List.eraseDups_cons,this]
 have kx:env.kindOf x=some .local:=hx;have ky:env.kindOf y=some .local:=hy;unfold swappedStores;show (if (!((2:Nat)==2||(2:Nat)==3)||(2:Nat) != 2||env.blockKind != .function)=true then _ else _)=_;rw[hb,if_neg (by decide),qCE _ (λe he=>by cases e<;>first|rfl|cases he) h1 h2,if_neg (by decide)];have fm:∀f:Expr->Option Str,f (.Name x px)=some x->f (.Name y py)=some y->[Expr.Name x px,.Name y py].filterMap f=[x,y]:=λf a b=>by simp[a,b]
 dsimp (config:={ zeta:=true }) only;rw[fm _ (by simp[kx,Expr.pos]) (by simp[ky,hl,Expr.pos]),hd,hf,hk];rfl
theorem qCI{iter elt:Expr}{ifs:List Expr}{scope:Scope}{N:List Str}{it:Itr}{src:List (Option Nat)}{g:Tg}{cs:Es}{e:E}{i:Nat}{n:Str}{p cpos:Pos}(hc:X.calm=true)(hi:SI X G F tg iter it)(S:_L.CompScope X scope N src)
  (hg:∀C fp s H,SG (_L.cxComp X scope C fp s H N) G tg g) (ht:∀C fp s H,SC (_L.cxComp X scope C fp s H N) G F ifs cs) (he:∀C fp s H,SE (_L.cxComp X scope C fp s H N) G F elt e)
  (hs:∀x,foldedSetIterable iter X.env x=pure x) (hN:X.N.Nodup) (hn:X.N[i]?=some n) (hx:_L.Loc X.env.scope n) (hf:X.fn n=true\/X.env.scope.names.lookup n=some .local):
  SS X G F (.Assign [.Name n p] (.ListComp elt [⟨tg,iter,ifs,0⟩] scope cpos) pos) (.asg (.name i) (.comp it src g cs e)):=by
 have hsw:swapsWith (.ListComp elt [⟨tg,iter,ifs,0⟩] scope cpos) (some (.Name n p)) pos.line X.env=pure (X.env.blockKind==.function&&X.env.kindOf n==some .local&&p.line==(Expr.ListComp elt [⟨tg,iter,ifs,0⟩] scope cpos).pos.line
   && !(scope.names.any λ(m,k)=>m==n&&(k==.local||k==.cell))):=rfl
 generalize hb:(X.env.blockKind==.function&&X.env.kindOf n==some .local&&p.line==(Expr.ListComp elt [⟨tg,iter,ifs,0⟩] scope cpos).pos.line
   && !(scope.names.any λ(m,k)=>m==n&&(k==.local||k==.cell)))=bb at hsw
 cases bb with
 |true=>
  have hl:X.env.scope.names.lookup n=some .local:=by
   simp only[wC]at hb;have z:X.env.kindOf n=some .local:=by simpa using hb.1.1.2
   exact z
  refine Qt (_L.ps_setcomp (i:=i) (g:=tG X.K G g) (tc:=tB X.K G (evc F cs)) (te:=tE X.K G F e) hc hi S hg ht he hsw hN hn hl hs) λD σc H q=>?_;refine j3 (qCW (U2 q) λv H1 z=>?_);obtain⟨φ,h,σ,w,σ',R,rs,r,es,k⟩:=z;unfold store at es;cases es;exact k _ (qz (R:=ropt φ) (show ropt φ (some w) (some v) from⟨v,rfl,r⟩) i rs)
 |false=>exact Qt (_L.ps_asg (W7 hc hi S hg ht he hs) (Y1 hN hn hx hf) hsw rfl rfl) λ_ _ _=>U2
noncomputable def qFj:_L.TSet:=λo i v H Q=>_L.rSetL o i v H Q\/∃p H',o=.ref p/\_L.DPut H p i v H'/\Q H'
theorem qC2(hu:X.A.units+8<cLine):_L.PSet X qFj:=by
 intro pins s σ H o i v ov iv u Q I ro ri rv h;rcases h with h|⟨p,H',rfl,g,q⟩
 ·exact _L.set_list pins s σ H o i v ov iv u Q I ro ri rv h
 ·cases ro;exact _L.d_setItem (by omega) I g ri rv λs' I'=>⟨H',I',q⟩
theorem qD4(hu:X.A.units+8<cLine){eo ei:Expr}{o i:E}{p:Pos}(ho:SE X G F eo o)(hi:SE X G F ei i)(ha:SE X G F ea a)(hc:jo ea=true)(hsl:Qy ei=true):SS X G F (.Assign [.Subscript eo ei p] ea pos) (.put o i a):=by
 refine Qt (_L.ps_asg ha (_L.pg_sub ho hi (qC2 hu) (λv=>by cases ei<;>first|rfl|cases hsl)) (QK hc) (by cases ea<;>rfl) rfl) λD σc H q=>?_;obtain⟨φ,h,σ,out,h',R,rs,e,k⟩:=q;unfold ex at e;obtain⟨⟨x,h1⟩,e1,e⟩:=tK e;obtain⟨⟨p1,h2⟩,e2,e⟩:=tK e;obtain⟨⟨k1,h3⟩,e3,e⟩:=tK e;refine⟨φ,h,σ,x,h1,R,rs,e1,λφ1 H1 w x1 R1 r1=>?_⟩;refine⟨φ1,h1,σ,p1,h2,R1,rst.mono x1 rs,e2,λφ2 H2 w2 x2 R2 r2=>?_⟩;refine⟨φ2,h2,σ,k1,h3,R2,rst.mono (x1.trans x2) rs,e3,λφ3 H3 w3 x3 R3 r3=>?_⟩;cases p1 with
 |ref q=>
  cases k1 with
  |int j=>
   dsimp only at e;split at e
   ·rename_i xs ex1;split at e
    ·rename_i jj ej;cases e;obtain⟨q1,a',zs,ha',hH,rz⟩:=R3.mut ex1;obtain⟨a2,rfl,ha2⟩:=qJ (rv.mono x3 r2);rw[ha']at ha2;cases ha2;cases qC r3;refine .inl ⟨_,zs,j,jj,rfl,rfl,hH,by rw[<-Paired.length rz];exact ej,?_⟩;have xx:Ext φ φ3:=x1.trans (x2.trans x3);exact k φ3 _ xx (R3.set q1 ha' (qz (rv.mono (x2.trans x3) r1) jj rz)) σc (rst.mono xx rs)
    ·cases e
   ·split at e
    ·rename_i kvs ed;split at e
     ·rename_i hf;cases e;obtain⟨a',ea,eh,hH⟩:=R3.dct ed;obtain⟨a2,rfl,ha2⟩:=qJ (rv.mono x3 r2);rw[ea]at ha2;cases ha2;cases qC r3;have hl:(kvs.map kk).length<sizeLine:=by rw[wZ];exact wH hf.2 ZF
      have xx:Ext φ φ3:=x1.trans (x2.trans x3);have fw:=D5 hf.1 r1;subst fw;refine .inr ⟨_,_,rfl,_L.DPut.k (k:=.inl j) hH hl,?_⟩;rw[qC0];exact k φ3 _ xx (R3.write rfl rfl eh ea upd_same) σc (rst.mono xx rs)
     ·cases e
    ·cases e
  |_=>cases e
 |_=>cases e
theorem Z7(ha:SE X G F ea a)(hc:jo ea=true):SS X G F (.Expr ea pos) (.expr a):=by
 refine Qt (_L.ps_expr ha (jl hc)) λD σc H q=>?_;obtain⟨φ,h,σ,out,h',R,rs,e,k⟩:=q;unfold ex at e;obtain⟨⟨x,h1⟩,e1,e⟩:=tK e;cases e;exact⟨φ,h,σ,x,_,R,rs,e1,λφ1 H1 w x1 R1 r1=>k φ1 H1 x1 R1 σc (rst.mono x1 rs)⟩
theorem qFE(ha:SE X G F ea a):SS X G F (.Return (some ea) pos) (.ret a):=by
 refine Qt (_L.ps_ret ha) λD σc H q=>?_;obtain⟨φ,h,σ,out,h',R,rs,e,k⟩:=q;unfold ex at e;obtain⟨⟨x,h1⟩,e1,e⟩:=tK e;cases e;exact⟨φ,h,σ,x,_,R,rs,e1,λφ1 H1 w x1 R1 r1=>k φ1 H1 x1 R1 w r1⟩
theorem qCF:SSs X G F [] .nil:=by
 refine qBA _L.pss_nil λD σc H q=>?_;obtain⟨φ,h,σ,out,h',R,rs,e,k⟩:=q;unfold exs at e;cases e;exact k φ H (.refl _) R σc rs
theorem y4{st:Stmt}{sts:List Stmt}{s:S}{ss:Ss}(h1:SS X G F st s)(h2:SSs X G F sts ss):SSs X G F (st::sts) (.cons s ss):=by
 refine qBA (_L.pss_cons h1 h2) λD σc H q=>?_;obtain⟨φ,h,σ,out,h',R,rs,e,k⟩:=q;unfold exs at e;obtain⟨⟨o,h1⟩,e1,e⟩:=tK e;refine⟨φ,h,σ,o,h1,R,rs,e1,λφ1 H1 x1 R1=>?_⟩;cases o with
 |nx σ1=>exact λσc1 rs1=>⟨φ1,h1,σ1,out,h',R1,rs1,e,k.mono x1⟩
 |rt v=>cases e;exact k φ1 H1 x1 R1
 |bk σ1=>cases e;exact k φ1 H1 x1 R1
 |ct σ1=>cases e;exact k φ1 H1 x1 R1
theorem qDm{t u:List Stmt}{st su:Ss}(hc:ST X G F ec c)(ht:SSs X G F t st)(hu:SSs X G F u su):SS X G F (.If ec t u pos) (.ifs c st su):=by
 refine Qt (_L.ps_if hc ht hu) λD σc H q=>?_;obtain⟨φ,h,σ,out,h',R,rs,e,k⟩:=q;unfold ex at e;obtain⟨⟨x,h1⟩,e1,e⟩:=tK e;refine⟨φ,h,σ,x,h1,R,rs,e1,λφ1 H1 x1 R1=>?_⟩;dsimp only at e;cases x with
 |true=>
  rw[if_pos rfl]at e ⊢;exact⟨φ1,h1,σ,out,h',R1,rst.mono x1 rs,e,k.mono x1⟩
 |false=>
  rw[if_neg (by decide)]at e ⊢;exact⟨φ1,h1,σ,out,h',R1,rst.mono x1 rs,e,k.mono x1⟩
theorem qDy{iter:Expr}{body:List Stmt}{it:Itr}{g:Tg}{sb:Ss}(hx:X.xe=λ_ _=>False)(hc:X.calm=true)(hi:SI X G F tg iter it)(hg:SG X G tg g)(hb:SSs X G F body sb)
  (hs:∀x,foldedSetIterable iter X.env x=pure x):SS X G F (.For tg iter body [] pos) (.for_ g it sb):=by
 refine Qt (_L.ps_for (by rw[hx];exact PassesOwn.never) hc hi hg hb hs) λD σc H q=>?_;obtain⟨φ,h,σ,out,h',R,rs,e,k⟩:=q;unfold ex at e;obtain⟨⟨s,h1⟩,e1,e⟩:=tK e;refine⟨φ,h,σ,s,h1,R,rs,e1,λφ1 H1 J x1 R1 j1=>?_⟩;dsimp only at e;split at e
 ·rename_i n hn;refine⟨λi m σ' H'=>∃φ' h2 σa,Ext φ1 φ'/\Rl X.K G φ' h2 H'/\rst φ' σa σ'/\O0 s g (exs F sb) m i σa h2=.ok (out,h'),⟨n,φ1,h1,σ,.refl _,R1,rst.mono x1 rs,e⟩,?_⟩;rintro i m σ' H' ⟨φ',h2,σa,x2,Ra,rsa,ef⟩;have jj:IsJ X.K φ' s J:=j1.mono x2;cases m with
  |zero=>
   unfold O0 at ef;split at ef
   ·rename_i hst;cases ef;exact .inl ⟨jj.stop Ra hst,k φ' H' (x1.trans x2) Ra σ' rsa⟩
   ·cases ef
  |succ m=>
   unfold O0 at ef;split at ef
   ·rename_i x h3 hy;split at ef
    ·rename_i σ3 hst;refine .inr ⟨jj.go Ra hy,λσ' H'=>∃φ' h2 σa,Ext φ1 φ'/\Rl X.K G φ' h2 H'/\rst φ' σa σ'/\O0 s g (exs F sb) m (i+1) σa h2=.ok (out,h'),λσ2 H2 w=>⟨m,vW _,w⟩,λxv H2 hyl=>?_⟩;obtain⟨φ3,x3,R3,rx⟩:=jj.yld Ra hy hyl;refine⟨φ3,h3,σa,x,σ3,R3,rst.mono x3 rsa,rx,hst,λσc3 rs3=>?_⟩;obtain⟨⟨o,h4⟩,e4,ef⟩:=tK ef;refine⟨φ3,h3,σ3,o,h4,R3,rs3,e4,λφ4 H4 x4 R4=>?_⟩;dsimp only at ef;cases o with
     |nx σ4=>exact λσc4 rs4=>⟨φ4,h4,σ4,x2.trans (x3.trans x4),R4,rs4,ef⟩
     |ct σ4=>exact λσc4 rs4=>⟨φ4,h4,σ4,x2.trans (x3.trans x4),R4,rs4,ef⟩
     |bk σ4=>cases ef;exact k φ4 H4 (x1.trans (x2.trans (x3.trans x4))) R4
     |rt v=>cases ef;exact k φ4 H4 (x1.trans (x2.trans (x3.trans x4))) R4
    ·cases ef
   ·cases ef
 ·cases e
theorem u8{body:List Stmt}{sb:Ss}(hx:X.xe=λ_ _=>False)(hc:ST X G F ec c)(hb:SSs X G F body sb):SS X G F (.While ec body [] pos) (.while_ c sb):=by
 refine Qt (_L.ps_while (by rw[hx];exact PassesOwn.never) hc hb) λD σc H q=>?_;obtain⟨φ,h,σ,out,h',R,rs,e,k⟩:=q;unfold ex at e;refine⟨λm σ' H'=>∃φ' h2 σa,Ext φ φ'/\Rl X.K G φ' h2 H'/\rst φ' σa σ'/\jA (λσ h=>asB (ev F c σ h)) (exs F sb) m σa h2=.ok (out,h'),⟨qAw,φ,h,σ,.refl _,R,rs,e⟩,?_⟩;rintro m σ' H' ⟨φ',h2,σa,x2,Ra,rsa,ew⟩;cases m with
 |zero=>unfold jA at ew;cases ew
 |succ m=>
  unfold jA at ew;obtain⟨⟨t,h3⟩,e3,ew⟩:=tK ew;refine⟨φ',h2,σa,t,h3,Ra,rsa,e3,λφ3 H3 x3 R3=>?_⟩;dsimp only at ew;cases t with
  |true=>
   rw[if_pos rfl]at ew ⊢;obtain⟨⟨o,h4⟩,e4,ew⟩:=tK ew;refine⟨λσ' H'=>∃φ' h2 σa,Ext φ φ'/\Rl X.K G φ' h2 H'/\rst φ' σa σ'/\jA (λσ h=>asB (ev F c σ h)) (exs F sb) m σa h2=.ok (out,h'),λσ2 H2 w=>⟨m,vW _,w⟩,φ3,h3,σa,o,h4,R3,rst.mono x3 rsa,e4,λφ4 H4 x4 R4=>?_⟩;dsimp only at ew;cases o with
   |nx σ4=>exact λσc4 rs4=>⟨φ4,h4,σ4,x2.trans (x3.trans x4),R4,rs4,ew⟩
   |ct σ4=>exact λσc4 rs4=>⟨φ4,h4,σ4,x2.trans (x3.trans x4),R4,rs4,ew⟩
   |bk σ4=>cases ew;exact k φ4 H4 (x2.trans (x3.trans x4)) R4
   |rt v=>cases ew;exact k φ4 H4 (x2.trans (x3.trans x4)) R4
  |false=>
   rw[if_neg (by decide)]at ew ⊢;cases ew;exact k φ3 H3 (x2.trans x3) R3 σ' (rst.mono x3 rsa)
end
def NX{α:Type}(r:Res α):Prop:=∀c h,r≠.exc c h
theorem NX.ok{α:Type}(a:α):NX (.ok a):=λ_ _ z=>nomatch z
theorem NX.st{α:Type}:NX (.stuck:Res α):=λ_ _ z=>nomatch z
theorem NX.nx{α:Type}(r:Res α):NX r.nx:=by cases r<;>(intro c h z;cases z)
theorem NX.bind{α β:Type}{r:Res α}{f:α->Res β}(h:NX r)(k:∀a,NX (f a)):NX (r.bind f):=by
 cases r with
 |ok a=>exact k a
 |exc c h'=>exact absurd rfl (h c h')
 |stuck=>exact NX.st
theorem F0{x y:V}{f:Int->Int->RV}(h:∀i j,NX (f i j)):NX (G4 x y f):=by
 unfold G4;split
 ·split
  ·exact h _ _
  ·exact NX.st
 ·exact NX.st
theorem JA{x:V}{f:Nat->RV}(h:∀a,NX (f a)):NX (P8 x f):=by
 unfold P8;split
 ·exact h _
 ·exact NX.st
theorem V6{as:List V}{f:V->RV}(h:∀a,NX (f a)):NX (one as f):=by
 unfold one;split
 ·exact h _
 ·exact NX.st
theorem Y6{as:List V}{f:V->V->RV}(h:∀a b,NX (f a b)):NX (two as f):=by
 unfold two;split
 ·exact h _ _
 ·exact NX.st
theorem qDP{op:BOp}{x y:V}{h:AH}:NX (qCR op x y h):=by
 unfold qCR newL;cases op<;>try dsimp only<;>(repeat (first|exact NX.ok _|exact NX.st|refine V6 λ_=>?_|refine Y6 λ_ _=>?_|refine JA λ_=>?_|refine F0 λ_ _=>?_|split))
theorem X0{op:COp}{x y:V}{h:AH}:NX (l7 op x y h):=by unfold l7;(repeat (first|exact NX.ok _|exact NX.st|split))
theorem qEq{f:BF}{as:List V}{h:AH}:NX (qEo f as h):=by
 unfold qEo newL;cases f<;>try dsimp only<;>(repeat (first|exact NX.ok _|exact NX.st|refine V6 λ_=>?_|refine Y6 λ_ _=>?_|refine JA λ_=>?_|refine F0 λ_ _=>?_|split))
theorem qCb{m:Mt}{p:Nat}{ys:List V}{h:AH}:NX (ZW m p ys h):=by unfold ZW;(repeat (first|exact NX.ok _|exact NX.st|refine V6 λ_=>?_|refine Y6 λ_ _=>?_|refine JA λ_=>?_|refine F0 λ_ _=>?_|split))
theorem QW{r:RV}(h:NX r):NX (asB r):=by
 unfold asB;refine NX.bind h λa=>?_
 (repeat (first|exact NX.ok _|exact NX.st|split))
theorem JO{s:Src}{g:Tg}{c:St->AH->Res (Bool×AH)}{e:St->AH->RV}{D:Nat}(hc:∀σ h,NX (c σ h))(he:∀σ h,NX (e σ h)):∀(n i:Nat) (ys:List V) (σ:St) (h:AH),NX (Qw s g c e D n i ys σ h)
 | 0,i,ys,σ,h=>by unfold Qw;(repeat (first|exact NX.ok _|exact NX.st|split))
 |n+1,i,ys,σ,h=>by
  unfold Qw;split
  ·split
   ·refine NX.bind (hc _ _) λa=>?_
    try dsimp only
    split
    ·refine NX.bind (he _ _) λb=>?_
     try dsimp only
     split
     ·exact JO hc he n _ _ _ _
     ·exact NX.st
    ·split
     ·exact JO hc he n _ _ _ _
     ·exact NX.st
   ·exact NX.st
  ·exact NX.st
section
variable (F:Nat->List V->AH->RV)
mutual
theorem qZ:∀(e:E) (σ:St) (h:AH),NX (ev F e σ h)
 | .var i,σ,h=>by unfold ev;(repeat (first|exact NX.ok _|exact NX.st|split))
 | .cst v,σ,h=>by unfold ev;(repeat (first|exact NX.ok _|exact NX.st|split))
 | .glob g,σ,h=>by unfold ev;(repeat (first|exact NX.ok _|exact NX.st|split))
 | .bin op a b,σ,h=>by unfold ev;exact NX.bind (qZ a σ h) λ_=>NX.bind (qZ b σ _) λ_=>qDP
 | .neg a,σ,h=>by unfold ev;refine NX.bind (qZ a σ h) λ_=>?_;(repeat (first|exact NX.ok _|exact NX.st|split))
 | .cmp op a b,σ,h=>by unfold ev;exact NX.bind (qZ a σ h) λ_=>NX.bind (qZ b σ _) λ_=>X0
 | .cmp2 o1 o2 a b c,σ,h=>by
  unfold ev;refine NX.bind (qZ a σ h) λ_=>NX.bind (qZ b σ _) λ_=>?_
  (try dsimp only);split
  ·exact NX.bind (qZ c σ _) λ_=>X0
  ·exact NX.ok _
  ·exact NX.st
 | .cmp3 o1 o2 o3 a b c d,σ,h=>by
  unfold ev;refine NX.bind (qZ a σ h) λ_=>NX.bind (qZ b σ _) λ_=>?_
  (try dsimp only);split
  ·refine NX.bind (qZ c σ _) λ_=>?_
   (try dsimp only);split
   ·exact NX.bind (qZ d σ _) λ_=>X0
   ·exact NX.ok _
   ·exact NX.st
  ·exact NX.ok _
  ·exact NX.st
 | .and a b,σ,h=>by unfold ev;refine NX.bind (QW (qZ a σ h)) λ_=>?_;(try dsimp only);split;exact qZ b σ _;exact NX.ok _
 | .or a b,σ,h=>by unfold ev;refine NX.bind (QW (qZ a σ h)) λ_=>?_;(try dsimp only);split;exact NX.ok _;exact qZ b σ _
 | .not a,σ,h=>by unfold ev;exact NX.bind (QW (qZ a σ h)) λ_=>NX.ok _
 | .ite c a b,σ,h=>by unfold ev;refine NX.bind (QW (qZ c σ h)) λ_=>?_;(try dsimp only);split;exact qZ a σ _;exact qZ b σ _
 | .call f as,σ,h=>by unfold ev;exact NX.bind (ju as σ h) λ_=>NX.nx _
 | .blt f as,σ,h=>by unfold ev;exact NX.bind (ju as σ h) λ_=>qEq
 | .isi a ts,σ,h=>by unfold ev;refine NX.bind (qZ a σ h) λ_=>?_;(repeat (first|exact NX.ok _|exact NX.st|split))
 | .idx a b,σ,h=>by unfold ev;refine NX.bind (qZ a σ h) λ_=>NX.bind (qZ b σ _) λ_=>?_;(repeat (first|exact NX.ok _|exact NX.st|split))
 | .sl a lo hi,σ,h=>by unfold ev newL newT;refine NX.bind (qZ a σ h) λ_=>NX.bind (ju lo σ _) λ_=>NX.bind (ju hi σ _) λ_=>?_;(repeat (first|exact NX.ok _|exact NX.st|split))
 | .lst as,σ,h=>by unfold ev newL;refine NX.bind (ju as σ h) λ_=>?_;(repeat (first|exact NX.ok _|exact NX.st|split))
 | .tup as,σ,h=>by unfold ev newT;refine NX.bind (ju as σ h) λ_=>?_;(repeat (first|exact NX.ok _|exact NX.st|split))
 | .comp it src g c e,σ,h=>by
  unfold ev;refine NX.bind (qBS it σ h) λ_=>?_
  (try dsimp only);split
  ·exact JO (qFA c) (qZ e) _ _ _ _ _
  ·exact NX.st
 | .app a b,σ,h=>by
  unfold ev;refine NX.bind (qZ a σ h) λ_=>?_
  (try dsimp only);split
  ·split
   ·refine NX.bind (qZ b σ _) λ_=>?_
    (repeat (first|exact NX.ok _|exact NX.st|split))
   ·exact NX.st
  ·exact NX.st
 | .lrng a,σ,h=>by unfold ev newL;refine NX.bind (qZ a σ h) λ_=>?_;(repeat (first|exact NX.ok _|exact NX.st|split))
 | .dnew,σ,h=>by unfold ev;(repeat (first|exact NX.ok _|exact NX.st|split))
 | .isx a cn ks,σ,h=>by unfold ev;refine NX.bind (qZ a σ h) λ_=>JA λ_=>?_;(repeat (first|exact NX.ok _|exact NX.st|split))
 | .meth m a as,σ,h=>by
  unfold ev;refine NX.bind (qZ a σ h) λ_=>?_
  (try dsimp only);split
  ·split
   ·exact NX.bind (ju as σ _) λ_=>qCb
   ·exact NX.st
  ·exact NX.st
theorem ju:∀(as:Es) (σ:St) (h:AH),NX (evs F as σ h)
 | .nil,σ,h=>by unfold evs;exact NX.ok _
 | .cons a as,σ,h=>by unfold evs;exact NX.bind (qZ a σ h) λ_=>NX.bind (ju as σ _) λ_=>NX.ok _
theorem qFA:∀(as:Es) (σ:St) (h:AH),NX (evc F as σ h)
 | .nil,σ,h=>by unfold evc;exact NX.ok _
 | .cons a _,σ,h=>by unfold evc;exact QW (qZ a σ h)
theorem qBS:∀(it:Itr) (σ:St) (h:AH),NX (evi F it σ h)
 | .list a,σ,h=>by unfold evi;refine NX.bind (qZ a σ h) λ_=>?_;(repeat (first|exact NX.ok _|exact NX.st|split))
 | .rng1 a,σ,h=>by unfold evi;refine NX.bind (qZ a σ h) λ_=>?_;(repeat (first|exact NX.ok _|exact NX.st|split))
 | .zip a b,σ,h=>by unfold evi;refine NX.bind (qZ a σ h) λ_=>NX.bind (qZ b σ _) λ_=>?_;(repeat (first|exact NX.ok _|exact NX.st|split))
 | .enum a,σ,h=>by unfold evi;refine NX.bind (qZ a σ h) λ_=>?_;(repeat (first|exact NX.ok _|exact NX.st|split))
 | .revd a,σ,h=>by unfold evi;refine NX.bind (qZ a σ h) λ_=>?_;(repeat (first|exact NX.ok _|exact NX.st|split))
end
mutual
noncomputable def S.calm:S->Bool
 | .ifs _ t u=>t.calm&&u.calm
 | .for_ _ _ b=>b.calm
 | .while_ _ b=>b.calm
 | .xexpr _ _=>false
 | .raise _=>false
 |_=>true
noncomputable def Ss.calm:Ss->Bool
 | .nil=>true
 | .cons s r=>s.calm&&r.calm
end
theorem C8{s:Src}{g:Tg}{b:St->AH->RS}(hb:∀σ h,NX (b σ h)):∀(n i:Nat) (σ:St) (h:AH),NX (O0 s g b n i σ h)
 | 0,i,σ,h=>by unfold O0;(repeat (first|exact NX.ok _|exact NX.st|split))
 |n+1,i,σ,h=>by
  unfold O0;split
  ·split
   ·refine NX.bind (hb _ _) λa=>?_
    try dsimp only
    split
    ·exact C8 hb n _ _ _
    ·exact C8 hb n _ _ _
    ·exact NX.ok _
    ·exact NX.ok _
   ·exact NX.st
  ·exact NX.st
theorem ZH{c:St->AH->Res (Bool×AH)}{b:St->AH->RS}(hc:∀σ h,NX (c σ h))(hb:∀σ h,NX (b σ h)):∀(n:Nat) (σ:St) (h:AH),NX (jA c b n σ h)
 | 0,σ,h=>by unfold jA;exact NX.st
 |n+1,σ,h=>by
  unfold jA;refine NX.bind (hc _ _) λa=>?_
  try dsimp only
  split
  ·refine NX.bind (hb _ _) λa=>?_
   try dsimp only
   split
   ·exact ZH hc hb n _ _
   ·exact ZH hc hb n _ _
   ·exact NX.ok _
   ·exact NX.ok _
  ·exact NX.ok _
mutual
theorem qEt:∀(s:S),s.calm=true->∀(σ:St) (h:AH),NX (ex F s σ h)
 | .asg g e,_,σ,h=>by unfold ex;refine NX.bind (qZ F e σ h) λ_=>?_;(repeat (first|exact NX.ok _|exact NX.st|split))
 | .par i j a b,_,σ,h=>by unfold ex;exact NX.bind (qZ F a σ h) λ_=>NX.bind (qZ F b σ _) λ_=>NX.ok _
 | .put o i v,_,σ,h=>by unfold ex;refine NX.bind (qZ F v σ h) λ_=>NX.bind (qZ F o σ _) λ_=>NX.bind (qZ F i σ _) λ_=>?_;(repeat (first|exact NX.ok _|exact NX.st|split))
 | .expr e,_,σ,h=>by unfold ex;exact NX.bind (qZ F e σ h) λ_=>NX.ok _
 | .ret e,_,σ,h=>by unfold ex;exact NX.bind (qZ F e σ h) λ_=>NX.ok _
 | .ifs c t u,hc,σ,h=>by
  unfold S.calm at hc;rw[wC]at hc;unfold ex;refine NX.bind (QW (qZ F c σ h)) λ_=>?_
  (try dsimp only);split
  ·exact JX t hc.1 _ _
  ·exact JX u hc.2 _ _
 | .for_ g it b,hc,σ,h=>by
  unfold S.calm at hc;unfold ex;refine NX.bind (qBS F it σ h) λ_=>?_
  (try dsimp only);split
  ·exact C8 (JX b hc) _ _ _ _
  ·exact NX.st
 | .while_ c b,hc,σ,h=>by
  unfold S.calm at hc;unfold ex;exact ZH (λσ h=>QW (qZ F c σ h)) (JX b hc) _ _ _
 | .stop,_,σ,h=>by unfold ex;exact NX.st
 | .xexpr f as,hc,σ,h=>by unfold S.calm at hc;cases hc
 | .raise c,hc,σ,h=>by unfold S.calm at hc;cases hc
 | .tryE b e i cn,_,σ,h=>by
  unfold ex
  try dsimp only
  split
  ·split
   ·exact NX.ok _
   ·exact NX.st
  ·rename_i q;intro c h' z;exact q c h' z
theorem JX:∀(s:Ss),s.calm=true->∀(σ:St) (h:AH),NX (exs F s σ h)
 | .nil,_,σ,h=>by unfold exs;exact NX.ok _
 | .cons s r,hc,σ,h=>by
  unfold Ss.calm at hc;rw[wC]at hc;unfold exs;refine NX.bind (qEt s hc.1 σ h) λ_=>?_
  (try dsimp only);split
  ·exact JX r hc.2 _ _
  ·exact NX.ok _
end
end
open _L (Un HOk ObjOk frs CXT XK)
theorem N6{P:Program}{w:World}{H:Hp}{h:Heap}{a:Addr}{o:HO}(x:ObjOk P w H h a o):∃u,h.get? a=some u:=by
 induction o with
 |lst xs=>obtain⟨z,its,n,r,e⟩:=x;exact⟨_,e⟩
 |tup xs=>obtain⟨z,its,r,ob,e,c⟩:=x;exact⟨_,e⟩
 |dK kvs=>obtain⟨_,_,vs,_,o,es,ep,h1,_⟩:=x;exact⟨_,h1⟩
 |dT kvs=>obtain⟨_,_,xs,_,o,es,ep,h1,_⟩:=x;exact⟨_,h1⟩
 |set S n=>obtain⟨o,_,_,_,e,_⟩:=x;exact⟨_,e⟩
 |ins C dx fs=>obtain⟨_,_,_,h1,_⟩:=x;exact⟨_,h1⟩
 |own y=>exact x
 |xd fs=>obtain⟨mA,⟨o,es,ep,h1,_⟩,_⟩:=x;exact⟨_,h1⟩
 |met f y=>exact⟨_,x⟩
 |rng lo hi=>obtain⟨t,u,v,e⟩:=x;exact⟨_,e⟩
 |frz o u ih=>exact⟨_,x.1⟩
 |tbl ps=>exact⟨_,x⟩
 |ext φ=>exact x.2.1
def Cov(l:List Env)(s:Heap)(H':Hp)(B h:Heap):Prop:=∀b o,h.get? b=some o->b∉frs l->((∃o',s.get? b=some o')\/H' b≠none)->B.get? b=some o
theorem stay{P:Program}{w:World}{l:List Env}{H H':Hp}{s h h' B base:Heap}(un:Un (frs l) [] H H' s h)(hok:HOk P w H' h)(cov:Cov l s H' B h)(hs:B.StaysIn h')(up:h.UpToSlots h')(fre:∀b∈frs l,H' b=none)(ff:h.FunFrames base l):
  Un (frs l) [] H H' s h'/\HOk P w H' h'/\Cov l s H' B h':=by
 have nof:∀b∈frs l,∀o,h.get? b=some o->∃sl,h'.get? b=some { o with slots:=sl }:=λb hb o e=>by
  obtain⟨_,o1,e1,nf⟩:=ff.mem hb;rw[e]at e1;cases e1;exact up b o e nf
 have tr:∀b o,H' b≠none->h.get? b=some o->h'.get? b=some o:=λb o hb e=>hs _ _ (cov b o e (λz=>hb (fre b z)) (.inr hb));refine⟨⟨λb o q n hb _=>?_,λb o q n hb hx=>?_,λb o q n hx=>un.free b o q n hx,λb o q hx=>?_,un.tups,un.frzs,un.tbls⟩,λa o e=>?_,λb o e hb c=>?_⟩
 ·exact hs _ _ (cov b o (un.keep b o q n hb (by simp)) hb (.inl ⟨o,q⟩))
 ·obtain⟨sl,e⟩:=un.slot b o q n hb hx;obtain⟨sl2,e2⟩:=nof b hb _ e;exact⟨sl2,e2⟩
 ·obtain⟨o',e⟩:=un.there b o q hx;by_cases hb:b∈frs l
  ·obtain⟨sl,e2⟩:=nof b hb _ e;exact⟨_,e2⟩
  ·exact⟨o',hs _ _ (cov b o' e hb (.inl ⟨o,q⟩))⟩
 ·refine(hok a o e).stay (λb u hb q=>tr b u ?_ q) (λb q=>q) λb xs q=>q;rcases hb with rfl|z
  ·rw[e];simp
  ·rw[z];simp
 ·have:∃o',h.get? b=some o':=by
   rcases c with⟨o1,q⟩|hb'
   ·exact un.there b o1 q (by simp)
   ·cases q:H' b with
    |none=>exact absurd q hb'
    |some u=>exact N6 (hok b u q)
  obtain⟨o',e'⟩:=this;have z:=cov b o' e' hb c;rw[hs _ _ z]at e;cases e;exact z
structure Fly(P:Program)(w:World)(l:List Env)(H:Hp)(s:Shared)(C ea:Addr)(H':Hp)(s':Shared):Prop where
 os:s'.os=s.os
 bare:AllBare s'.gens
 un:Un (frs l) [] H H' s.heap s'.heap
 hok:HOk P w H' s'.heap
 fl:∃B a0,Heap.FlyingW B l ea (.ref C) a0 s'.heap/\Cov l s.heap H' B s'.heap
noncomputable def CX1(P:Program)(w:World):CXT:=λouter H s E e s'=>∃ea C H',e=.ref ea/\Fly P w outer H s C ea H' s'/\E (.ref C) none H'
section
variable{X:Cx}{pins:List (Addr×Obj)}{σ:_L.St}{H H':Hp}{s s':Shared}
theorem ofs(I:Inv X pins σ H s)(hst:X.stack=X.env::X.outer)(hf:X.env.frame=some X.env.locals){b:Addr}(hb:b∈frs X.stack):b=X.env.locals\/b∈X.fs:=by
 rw[hst]at hb;unfold frs at hb;rw[wv,hf]at hb;exact wL.mp hb
theorem qBR{h' B:Heap}{C ea:Addr}{a0:Value}(I:Inv X pins σ H s)(hst:X.stack=X.env::X.outer)(hf:X.env.frame=some X.env.locals)(hex:X.ex=[])(os:s'.os=s.os)(bare:AllBare s'.gens)(un:Un (frs X.stack) [] H H' s.heap h')(hok:HOk X.prog X.w H' h')(cov:Cov X.stack s.heap H' B h')
  (fl:Heap.FlyingW B X.outer ea (.ref C) a0 h'):Fly X.prog X.w X.outer X.H₀ X.s₀ C ea H' { s' with heap:=h' }:=by
 have I':Inv X pins σ H' { s' with heap:=h' }:=I.call' os un hok bare (λb z=>absurd z (by simp));have b0:=I'.base;rw[hex]at b0;refine⟨I'.os,bare,b0,hok,B,a0,fl,λb o e hb c=>?_⟩;refine cov b o e (λz=>?_) ?_
 ·rcases ofs I hst hf z with rfl|z
  ·rcases c with⟨o',q⟩|q
   ·exact absurd (Heap.lt_size q) (Nat.not_lt.mpr I.ok.above)
   ·exact q I'.free
  ·exact hb z
 ·rcases c with⟨o',q⟩|q
  ·exact .inl (I.base.there b o' q (by rw[hex];simp))
  ·exact .inr q
theorem M7{h base:Heap}{fs:List Addr}:∀{l:List Env},(∀b∈frs l,b∈fs)->h.FunFrames base l->h.FunFrames (PySem.W.hideAll h fs) l
 | [],_,_=>trivial
 |env::l,hs,⟨k,⟨L,o,f,_,e,n⟩,r⟩=>⟨k,⟨L,o,f,PySem.W.hideAll_none fs (hs L (by unfold frs;rw[wv,f];exact wM ..)),e,n⟩,M7 (λb hb=>hs b (by
  unfold frs at hb ⊢;rw[wv,f];exact wI _ hb)) r⟩
theorem C5{h1:Heap}{C ea:Addr}{vs:List Value}{E:Value->Shared->Prop}(I:Inv X pins σ H s)(hst:X.stack=X.env::X.outer)(hf:X.env.frame=some X.env.locals)(hex:X.ex=[])(hm:Heap.MadeExcOf s.heap h1 ea (.ref C) vs):
  wpAny (model X.prog X.w) X.A (leaving X.env (.ref ea)) (λ_ s''=>Fly X.prog X.w X.outer X.H₀ X.s₀ C ea H s'') E { s with heap:=h1 }:=by
 have fr:=I.ok.frames;rw[hst]at fr;have ff:=I.stack;have fh:s.heap.FunFrames (PySem.W.hideAll s.heap (frs X.stack)) (X.env::X.outer):=by rw[<-hst];exact M7 (λb hb=>hb) ff
 refine wpAny_leaves_madeW (base:=PySem.W.hideAll s.heap (frs X.stack)) (h:=s.heap) fr hf (λb o e=>PySem.W.of_hideAll _ e) fh hm λh' t fl _ _ up=>?_;have ff1:h1.FunFrames X.base X.stack:=ff.of_keeps λb o e _=>⟨o,hm.keeps b o e,rfl⟩
 have cov:Cov X.stack s.heap H (PySem.W.hideAll s.heap (frs X.stack)) h1:=λb o e hb c=>by
  have:∃o',s.heap.get? b=some o':=by
   rcases c with c|c
   ·exact c
   ·cases q:H b with
    |none=>exact absurd q c
    |some u=>exact N6 (I.hok b u q)
  obtain⟨o',e'⟩:=this;rw[hm.keeps b o' e']at e;cases e;exact PySem.W.hideAll_get _ e' hb
 obtain⟨u,k,c⟩:=stay (Un.kept hm.keeps) (I.hok.kept hm.keeps) cov fl.1 up I.stkFree ff1;exact qBR (s':={ s with heap:=h1 }) I hst hf hex rfl I.bare u k c fl
theorem P4{C ea:Addr}{E:Value->Shared->Prop}(I:Inv X pins σ H s)(hst:X.stack=X.env::X.outer)(hf:X.env.frame=some X.env.locals)(hex:X.ex=[])(F:Fly X.prog X.w X.stack H s C ea H' s'):
  wpAny (model X.prog X.w) X.A (leaving X.env (.ref ea)) (λ_ s''=>Fly X.prog X.w X.outer X.H₀ X.s₀ C ea H' s'') E s':=by
 obtain⟨B,a0,fl,cov⟩:=F.fl;have fr:=I.ok.frames;have fl0:=fl;rw[hst]at fr fl;refine wpAny_leaves_onW fr hf fl λh' fl' up=>?_;have fre:∀b∈frs X.stack,H' b=none:=λb hb=>by
  obtain⟨_,o,e,_⟩:=I.stack.mem hb;exact F.un.free b o e (I.stkFree b hb) (by simp)
 obtain⟨u,k,c⟩:=stay F.un F.hok cov fl'.1 up fre fl0.2.2.1;exact qBR (s':=s') I hst hf hex F.os F.bare u k c fl'
end
open PySem.W PySem.Builtin PySem.Builtin.ObjectAttr PySem.Builtin.Getset_descriptor
section
variable{K:Frag}{prog:Program}{w:World}{A:Around}{E:Value->Shared->Prop}{x D:Addr}{ox:Obj}{h:Heap}{g:Array GenState}{d:Drawn}{t:Nat}{os:OsState}
theorem qDo{R:Result->Shared->Prop}{ty:Value}(X:K.In h)(hx:h.get? x=some ox)(hc:ox.cls=.ref D)(hm:mroIn K D (.type "object")=some true)(fin:R (.ok (.ret (.ref D))) ⟨h,g,d,t,os⟩):
  codeAny (model prog w) A (.call (.builtin "getset_descriptor.__get__") ⟨[.builtin "object.__class__",.ref x,ty],[]⟩) R ⟨h,g,d,t,os⟩:=by
 have ty0:Looks (model prog w) h (typeOf (.ref x)) (.ref D):=hc ▸ (Looks.ld hx).andThen .now;have mr:=looks_mroIn (M:=model prog w) X hm;refine codeAny_call_builtin KF.slot_gs.plain KF.entry_gs (KF.slot_gs.check _ _ _ _ _ _ _ _ KF.type_class (KF.args_gs _ _ _) ?_);unfold Builtin.«getset_descriptor.__get__» descrGet;rw[dga_obj];refine uD (uE ?_);unfold descrGetter descrCheckInstance descrNameAndClass isInstance;simp only[KF.owner_class]
 repeat lk
 refine⟨Code.quiet_builtin _ (by decide +kernel),codeAny_builtin KF.entry_class ?_⟩;unfold Builtin.«object.__class__» shownTypeOf;repeat lk
 exact fin
theorem qAY{tk:Tok}{Q:Fin->Shared->Prop}(X:K.In h)(hx:h.get? x=some ox)(hc:ox.cls=.ref D)(ha:findIn K (.ref D) "__class__"=some (some (.builtin "object.__class__")))(hm:mroIn K D (.type "object")=some true)(fin:Q (.done (.ret (.ref D))) ⟨h,g,d,t,os⟩):
  wpAny (model prog w) A (Builtin.«object.__getattribute__» ⟨[.ref x,.str "__class__" tk],[]⟩) Q E ⟨h,g,d,t,os⟩:=by
 have g1:(⟨h,g,d,t,os⟩:Shared).TypeIs (.builtin "object.__class__") "getset_descriptor":=F.typeOf_object_class;have g2:=F.typeOf_object_class;have g3:=F.slot_gs_get.lookup;have g4:=F.slot_gs_set.lookup;have g5:=looks_findIn (M:=model prog w) X ha
 repeat (any_goals (first|assumption|(with_reducible refine wpAny_loadPart_at hx ?_;rw[hc])|with_reducible refine g5.at ?_|wp_step))
 refine qDo X hx hc hm ?_
 repeat (any_goals (first|assumption|wp_step))
theorem y9{M:Model}{nv:Value}{Q:Unit->Shared->Prop}(X:K.In h)(hx:h.get? x=some ox)(hc:ox.cls=.ref D)(hb:mroIn K D (.type "BaseException")=some true)(fin:Q () ⟨h,g,d,t,os⟩):
  wpAny M A (checkBuiltinCall "BaseException.__getattribute__" ⟨[.ref x,nv],[]⟩) Q E ⟨h,g,d,t,os⟩:=by
 have k1:builtinKind "BaseException.__getattribute__"=some .slot:=by decide +kernel
 have k2:splitId "BaseException.__getattribute__"=some ("BaseException","__getattribute__"):=by decide +kernel
 have k3:=F.args_bexc_ga (.ref x) nv;have k4:=looks_mroIn (M:=M) X hb;simp only[checkBuiltinCall,k1,k2];refine uD ?_;unfold isInstance
 repeat (first|(with_reducible refine wpAny_loadPart_at hx ?_;rw[hc])|with_reducible refine k4.at ?_|wp_step)
 exact fin
structure l8(K:Frag)(D:Addr):Prop where
 cl:∃cd,clsIn K D=some cd
 ca:findIn K (.ref D) "__class__"=some (some (.builtin "object.__class__"))
 mo:mroIn K D (.type "object")=some true
 mb:mroIn K D (.type "BaseException")=some true
 ga:findIn K (.ref D) "__getattribute__"=some (some (.builtin "BaseException.__getattribute__"))
 gn:findIn K (.ref D) "__getattr__"=some none
 ex:excIn K D [.type "ValueError",.type "Exception",.type "BaseException",.type "object"] "ValueError.__new__"=true
theorem qFl{tk:Tok}{qHE ex:Bool}{Q:Value->Shared->Prop}(X:K.In h)(c:l8 K D)(hx:h.get? x=some ox)(hc:ox.cls=.ref D)(fin:Q (.ref D) ⟨h,g,d,t,os⟩):wpAny (model prog w) A (getAttrBy (.ref x) (.str "__class__" tk) qHE ex) Q E ⟨h,g,d,t,os⟩:=by
 have e3:=F.excAttr_ValueError.ga.bind (.ref x);have e4:(ex&&onTheHeap (Value.builtin "BaseException.__getattribute__"))=false:=by cases ex<;>rfl
 have e5:(Value.builtin "BaseException.__getattribute__"==Value.builtin "object.__getattribute__")=false:=by decide +kernel
 have e6:(onTheHeap (Value.ref D)&&Value.builtin "BaseException.__getattribute__"==Value.builtin "object.__getattribute__")=false:=by rw[e5];rfl
 have e7:=looks_findIn (M:=model prog w) X c.ga;have e8:=looks_findIn (M:=model prog w) X c.gn
 repeat (any_goals (first|assumption|(with_reducible refine wpAny_loadPart_at hx ?_;rw[hc])|with_reducible refine e7.at ?_|with_reducible refine e8.at ?_|wp_step))
 refine codeAny_call_builtin F.excAttr_ValueError.ga.plain F.entry_bexc_ga (y9 X hx hc c.mb (qAY X hx hc c.ca c.mo ?_))
 repeat (any_goals (first|assumption|wp_step))
theorem qAM{Q:Option Value->Shared->Prop}(X:K.In h)(c:l8 K D)(hx:h.get? x=some ox)(hc:ox.cls=.ref D)(fin:Q (some (.ref D)) ⟨h,g,d,t+1,os⟩):wpAny (model prog w) A (getAttr? (.ref x) "__class__") Q E ⟨h,g,d,t,os⟩:=by
 unfold getAttr? getAttrBy?
 repeat (any_goals (first|assumption|with_reducible apply qFl X c hx hc|wp_step))
theorem j5(c:l8 K D):KitX K (.ref x) (.ref D) (λh=>∃ox,h.get? x=some ox/\ox.cls=.ref D) where
 ty:=λ_ _ _ ⟨ox,hx,hc⟩=>hc ▸ (Looks.ld hx).andThen .now
 it:=λ_ _ X _=>by
  obtain⟨cd,hcd⟩:=c.cl;unfold clsIn at hcd;split at hcd
  ·rename_i ho;intro A2 Q2 E2 s2 k2 q2;unfold isType loadHead;exact uD (wpAny_loadPart (k2 _ _ (X _ _ ho)) (uE q2))
  ·cases hcd
 ne:=λh tp dd its n sl X htp=>by
  obtain⟨cd,hcd⟩:=c.cl;refine Bool.eq_false_iff.mpr λq=>?_;cases Value.ref.inj (beq_iff_eq.mp q);unfold clsIn at hcd;split at hcd
  ·rename_i ho;cases (X _ _ ho).symm.trans htp
  ·cases hcd
 ca:=λ{_ _ _ _ _ s} X ⟨ox,hx,hc⟩ k=>by obtain⟨h,g,d,t,os⟩:=s;exact qAM X c hx hc k
theorem qCA{h:Heap}{C:Addr}{bmB:List Value}{nid:String}(X:K.In h)(q:excIn K C bmB nid=true):∃bm N nm qn bs hd sn sb ab col dd k0 k1 k2 k3 k5 mN,h.get? C=some (excClassObj nm qn C N bs bm hd sn sb ab col dd k0 k1 k2 k3 k5 nid)/\h.Ns N mN/\mN "__init__"=none/\OwnTail h bmB bm:=by
 unfold excIn at q;split at q
 ·rename_i dd cd sl ho;split at q
  ·rename_i C2 bm k0 k1 k2 k3 n k5 hm hs;simp only[wC,beq_iff_eq,vg]at q;obtain⟨⟨⟨⟨⟨rfl,rfl⟩,hdl⟩,htl⟩,hno⟩,hin⟩:=q;obtain⟨nm,bs,mro,ns,qn,hd,sn,sb,ab,col,dl⟩:=cd;dsimp only at hm hdl hno hin;subst hm hdl;have e6:sl=#[k0,k1,k2,k3,some (.builtin n),k5]:=by obtain⟨l⟩:=sl;simp only at hs;rw[hs]
   subst e6;exact⟨bm,ns,nm,qn,bs,hd,sn,sb,ab,col,dd,k0,k1,k2,k3,k5,_,X _ _ ho,.of_isNs (isNs_of_in X hno),nsMap_none_of_in X hno hin,tail_of_in X htl⟩
  ·cases q
 ·cases q
end
section
variable{X:Cx}{pins:List (Addr×Obj)}{σ:_L.St}{H H':Hp}{s s':Shared}
theorem z9{x:Str}{C:Addr}{v:Str}{np p cpos pos:Pos}{j:Nat}{Q:Flow->Shared->Prop}(hg:_L.Gl X x)(hm:X.mg x=some (.ref C))(hd:(x==("__debug__":Str))=false)(hc:X.calm=true)(c:l8 X.K C)(I:Inv X pins σ H s)
  (k:∀s2 h1 ea vs,Inv X pins σ H s2->Heap.MadeExcOf s2.heap h1 ea (.ref C) vs->X.xe (.ref ea) { s2 with heap:=h1 }):wpAny (model X.prog X.w) X.A (exec (.Raise (some (.Call (.Name x np) [.Constant (.str v) j p] [] cpos)) none pos) X.env) Q X.xe s:=by
 obtain⟨bm,N,nm,qn,bs,hdc,sn,sb,ab,col,dd,k0,k1,k2,k3,k5,mN,hC,hN,hni,T⟩:=qCA I.mod.kin c.ex;have st:starEach [Expr.Constant (.str v) j p] X.env=(false,eval (.Constant (.str v) j p) X.env)::starEach [] X.env:=rfl;refine wpAny_Raise_call_subT (C:=C) (bm:=bm) (nm:=nm) (q:=qn) (N:=N) (bs:=bs) (hdct:=hdc) (sn:=sn) (sub:=sb) (ab:=ab) (col:=col) (dd:=dd) (k0:=k0) (k1:=k1) (k2:=k2) (k3:=k3) (k5:=k5) F.excBase_ValueError (mN:=mN) (T.hasType F.excBase_ValueError.hasBase) (I.ok.hd hc) rfl hni (_L.ld_glob I hg hm ⟨rfl,?_⟩ hd);refine Calls.evalArgs_plain (wpAny_mono (_L.pa_cons (X:=X) _L.pe_str _L.pa_nil st cpos pins s σ H (λws H1=>ws.length=1/\H1=H) I ⟨rfl,rfl⟩) (λus s2 ⟨ws,H1,I1,r1,l1,e1⟩=>?_) λ_ _ y=>y);subst e1;exact⟨rfl,by rw[<-r1.length,l1];decide,I1.bk _ _ hC,hN.keeps I1.bk,T.keeps I1.bk,λh1 e hm=>k s2 h1 e _ I1 hm⟩
end
noncomputable def XE(X:Cx)(ea:Addr)(oe:Obj)(E:Value->Shared->Prop):Cx:={ X with A:=X.A.mark (some (.ref ea)),calm:=false,pn:=(ea,oe)::X.pn,xe:=E }
section
variable{X:Cx}{pins:List (Addr×Obj)}{σ:_L.St}{H H':Hp}{s s':Shared}{ea:Addr}{oe:Obj}{E:Value->Shared->Prop}
theorem qEO(I:Inv X pins σ H s)(h1:s.heap.get? ea=some oe)(h2:H ea=none)(h3:ea≠X.env.locals)(h4:ea∉X.fs)(h5:∀v,oe.data≠.cell v):Inv (XE X ea oe E) pins σ H s:=
 ⟨⟨I.ok.mod,I.ok.kind,I.ok.glob,I.ok.blt,I.ok.above,I.ok.inj,I.ok.has,I.ok.cab,(λz=>nomatch z),I.ok.frames,I.ok.stk,I.ok.exf,I.ok.bs,I.ok.bsz,I.ok.noex,I.ok.exfs,I.ok.funs,I.ok.frf⟩,I.os,I.bare,I.base,I.loc,I.cell,I.free,I.freeC,λp hp=>by
  have hp:p∈(ea,oe)::(X.pn++pins):=hp;rcases wL.mp hp with rfl|hp
  ·exact⟨h1,h2,h3,h4,h5⟩
  ·exact I.pin p hp,I.hok,I.len⟩
theorem qGK(ok:X.Ok)(I:Inv (XE X ea oe E) pins σ H s):Inv X pins σ H s:=
 ⟨ok,I.os,I.bare,I.base,I.loc,I.cell,I.free,I.freeC,λp hp=>I.pin p (wI _ hp),I.hok,I.len⟩
theorem qH1(I:Inv (XE X ea oe E) pins σ H s):s.heap.get? ea=some oe:=(I.pin (ea,oe) (wM ..)).1
theorem qBk{M:Model}{A:Around}{n:Str}{i:Nat}{pos:Pos}{Q:Unit->Shared->Prop}(I:Inv X pins σ H s)(hN:X.N.Nodup)(hi:X.N[i]?=some n)(hk:X.env.scope.names.lookup n=some .local)(k:∀s',Inv X pins (σ.set i none) H s'->Q () s'):
  wpAny M A (do bindName X.env n .none;unbindBehindTheSuite X.env n pos) Q E s:=by
 obtain⟨m,hn,hl⟩:=id I.loc;have cl:(X.env.scope.kind==.class||(X.env.scope.kind==.module&&X.env.locals != X.env.globals))=false:=by rw[I.ok.kind];rfl
 refine wpAny_nameGoes_keeps hk hn cl λh1 v hn1 hs=>k _ ?_;have old:∀b o,X.s₀.heap.get? b=some o->b≠X.env.locals:=λb o e=>wX (wH (Heap.lt_size e) I.ok.above);refine⟨I.ok,I.os,I.bare,⟨λb o e q hb hx=>(hs.2 b (old b o e)).trans (I.base.keep b o e q hb hx),λb o e q hb hx=>?_,I.base.free,λb o e hx=>?_,I.base.tups,I.base.frzs,I.base.tbls⟩,⟨_,hn1,λj y v2 e1 e2 e3=>?_⟩,λy c e=>?_,I.free,I.freeC,λp hp=>?_,λb u e=>?_,by simpa using I.len⟩
 ·obtain⟨sl,e1⟩:=I.base.slot b o e q hb hx;exact⟨sl,(hs.2 b (old b o e)).trans e1⟩
 ·obtain⟨o2,e1⟩:=I.base.there b o e hx;exact⟨o2,(hs.2 b (old b o e)).trans e1⟩
 ·by_cases hj:j=i
  ·subst hj;rw[List.getElem?_set]at e2;simp at e2
  ·rw[wW (Ne.symm hj)]at e2;obtain⟨u2,r2,q⟩:=hl j y v2 e1 e2 e3;refine⟨u2,r2,?_⟩;rcases q with⟨kk,e⟩|⟨kk,c,e,z⟩
   ·have hy:y≠n:=λz=>hj (_L.nodup_ix hN e1 (z ▸ hi));exact .inl ⟨kk,(if_neg hy).trans e⟩
   ·exact .inr ⟨kk,c,e,z.sameBut hs (I.cne y c e)⟩
 ·obtain⟨w2,z⟩:=I.cell y c e;exact⟨w2,z.sameBut hs (I.cne y c e)⟩
 ·obtain⟨e,q,ne,nf,dd⟩:=I.pin p hp;exact⟨(hs.2 p.1 ne).trans e,q,ne,nf,dd⟩
 ·refine(I.hok b u e).stay (λc w2 hc q=>(hs.2 c ?_).trans q) (λ_ q=>q) λ_ _ q=>q;rintro rfl;rcases hc with rfl|hc
  ·rw[I.free]at e;cases e
  ·rw[I.free]at hc;cases hc
theorem qBr{φ:Heap->Prop}(I:Inv X pins σ H s)(h0:ea∉X.ex->X.s₀.heap.get? ea=none)(h1:s.heap.get? ea=some oe)(h2:H ea=none)(h3:ea≠X.env.locals)(h5:∀v,oe.data≠.cell v)(h6:∀p∈X.pn++pins,p.1≠ea)(new:ObjOk X.prog X.w (_L.upd H ea (.ext φ)) s.heap ea (.ext φ)):Inv X pins σ (_L.upd H ea (.ext φ)) s:=by
 have ne:∀b u,H b=some u->b≠ea:=λb u e z=>by rw[z,h2]at e;cases e
 refine⟨I.ok,I.os,I.bare,⟨I.base.keep,I.base.slot,λb o e q hx=>?_,I.base.there,λb xs e=>?_,λb o u e=>?_,λb ps e=>?_⟩,I.loc,I.cell,?_,λx c e=>?_,λp hp=>?_,λb u e=>?_,I.len⟩
 ·rw[_L.upd_ne (λz=>by subst z;rw[h0 hx]at e;cases e)];exact I.base.free b o e q hx
 ·have:=I.base.tups b xs e;rw[_L.upd_ne (ne _ _ this)];exact this
 ·have:=I.base.frzs b o u e;rw[_L.upd_ne (ne _ _ this)];exact this
 ·obtain⟨m,q⟩:=I.base.tbls b ps e;exact⟨m,by rw[_L.upd_ne (ne _ _ q)];exact q⟩
 ·rw[_L.upd_ne (Ne.symm h3)];exact I.free
 ·obtain⟨v,o,ho,hd⟩:=I.cell x c e;rw[_L.upd_ne (λz=>by rw[z,h1]at ho;cases ho;exact h5 _ hd)];exact I.freeC x c e
 ·obtain⟨e,q,r⟩:=I.pin p hp;exact⟨e,by rw[_L.upd_ne (h6 p hp)];exact q,r⟩
 ·by_cases hb:b=ea
  ·subst hb;rw[_L.upd_same]at e;cases e;exact new
  ·rw[_L.upd_ne hb]at e;exact(I.hok b u e).stay (λc w2 hc q=>q) (λc q=>by rw[_L.upd_ne (ne _ _ q)];exact q) λc xs q=>by rw[_L.upd_ne (ne _ _ q)];exact q
theorem qD0{x n:Str}{C C0:Addr}{i:Nat}{np hpos:Pos}{b0:Stmt}{suite:List Stmt}{QD:List ExceptHandler}{Q:Flow->Shared->Prop}{R7:_L.St->Hp->Prop}(I:Inv X pins σ H s)(hst:X.stack=X.env::X.outer)(hf:X.env.frame=some X.env.locals)(hex:X.ex=[])(hN:X.N.Nodup)(hi:X.N[i]?=some n)
  (hk:X.env.scope.names.lookup n=some .local) (hg:_L.Gl X x) (hm:X.mg x=some (.ref C0)) (hd:(x==("__debug__":Str))=false) (hx:exmOne X.K (.ref C) (.ref C0)=some true) (Fy:Fly X.prog X.w X.stack H s C ea H' s')
  (k:∀oe s6,oe.cls=.ref C->Inv (XE X ea oe λ_ _=>False) pins (σ.set i (some (.ref ea))) H' s6->wpAny (model X.prog X.w) (X.A.mark (some (.ref ea))) (execs (b0::suite) X.env) (λf s7=>f=.next/\∃σ7 H7,Inv (XE X ea oe λ_ _=>False) pins σ7 H7 s7/\R7 (σ7.set i none) H7) (λ_ _=>False) s6)
  (fin:∀σ7 H7 s8 oe,oe.cls=.ref C->X.s₀.heap.get? ea=none->s8.heap.get? ea=some oe->H7 ea=none->ea≠X.env.locals->(∀v,oe.data≠.cell v)->(∀p∈X.pn++pins,p.1≠ea)->Inv X pins σ7 H7 s8->R7 σ7 H7->Q .next s8):
  wpAny (model X.prog X.w) X.A (noteFrame (.ref ea) X.env) (λ_ s2=>wpAny (model X.prog X.w) X.A (setFlight (.ref ea) none) (λ_ s3=>wpAny (model X.prog X.w) X.A (handleBy (.ref ea) X.env (.ExceptHandler (some (.Name x np)) (some n) (b0::suite) hpos::QD)) Q E s3) E s2) E s':=by
 obtain⟨B,a0,fl,cov⟩:=Fy.fl;have fr:=I.ok.frames;have fl0:=fl;rw[hst]at fr fl;have fre:∀b∈frs X.stack,H' b=none:=λb hb=>by
  obtain⟨_,o,e,_⟩:=I.stack.mem hb;exact Fy.un.free b o e (I.stkFree b hb) (by simp)
 refine wpAny_looks_onW fr hf fl λh4 held up4=>?_;refine wpAny_landsW held λh5 fl5 up5=>?_;obtain⟨u5,k5,c5⟩:=stay Fy.un Fy.hok cov fl5.1 (up4.trans up5) fre fl0.2.2.1;have I5:Inv X pins σ H' { s' with heap:=h5 }:=I.call' Fy.os u5 k5 Fy.bare (λb z=>absurd z (by simp));have not_fr:∀{h:Heap}{oe:Obj}{ws:Array Value},h.FunFrames B X.stack->h.get? ea=some oe->oe.data=.fields ws->ea∉frs X.stack:=λ{h oe ws} ff e d z=>by
  obtain⟨_,o,e2,nf⟩:=ff.mem z;rw[e]at e2;cases e2;exact nf ws d
 have apart:∀{h:Heap}{oe:Obj}{ws:Array Value},h.FunFrames B X.stack->Cov X.stack s.heap H' B h->B.get? ea=none->h.get? ea=some oe->oe.data=.fields ws->H' ea=none/\ea≠X.env.locals/\ea∉X.fs/\∀v,oe.data≠.cell v:=λ{h oe ws} ff cv hb e d=>by
  have nf:=not_fr ff e d;refine⟨?_,λz=>nf ?_,λz=>nf ?_,λv q=>by rw[d]at q;cases q⟩
  ·cases q:H' ea with
   |none=>rfl
   |some u=>
    have:=cv ea oe e nf (.inr (by rw[q];simp));rw[hb]at this;cases this
  ·rw[hst];unfold frs;rw[wv,hf,z];exact wM ..
  ·rw[hst];unfold frs;rw[wv,hf];exact wI _ z
 obtain⟨oe5,ws5,e5,hc5,d5,_⟩:=fl5.first;have ff5:h5.FunFrames B X.stack:=by rw[hst];exact fl5.2.2.1
 obtain⟨a1,a2,a3,a4⟩:=apart ff5 c5 fl5.2.1 e5 d5;have IM:Inv (XE X ea oe5 λ_ _=>False) pins σ H' { s' with heap:=h5 }:=qEO I5 e5 a1 a2 a3 a4;refine wpAny_handleBy_cons (codeAny_handlers_test (_L.ld_glob IM hg hm ?_ hd)) (by intro q;cases q);have LT:Looks (model X.prog X.w) h5 (typeOf (.ref ea)) (.ref C):=hc5 ▸ (Looks.ld e5).andThen .now;refine(exm_one I5.kIn LT hx).here ?_;refine codeAny_handlers_suite_as ?_;refine lands_againW fl5 λh6 fl6 up6=>?_;obtain⟨u6,k6,c6⟩:=stay u5 k5 c5 fl6.1 up6 fre ff5;have I6:Inv X pins σ H' { s' with heap:=h6 }:=I.call' Fy.os u6 k6 Fy.bare (λb z=>absurd z (by simp));obtain⟨oe6,ws6,e6,hc6,d6,_⟩:=fl6.first;have ff6:h6.FunFrames B X.stack:=by rw[hst];exact fl6.2.2.1
 obtain⟨b1,b2,b3,b4⟩:=apart ff6 c6 fl6.2.1 e6 d6;have IM6:Inv (XE X ea oe6 λ_ _=>False) pins σ H' { s' with heap:=h6 }:=qEO I6 e6 b1 b2 b3 b4;refine _L.store_ok (X:=XE X ea oe6 λ_ _=>False) IM6 hN hi (.inl hk) (v:=.ref ea) rfl (λs7 I7=>?_) (.inr hk);refine wpAny_mono (k oe6 s7 hc6 I7) (λf s8 ⟨e,σ7,H7,I8,r⟩=>?_) (λ_ _ z=>z.elim);subst e;have nf6:ea∉frs X.stack:=not_fr ff6 e6 d6;have s0n:s.heap.get? ea=none:=by
  cases q:s.heap.get? ea with
  |none=>rfl
  |some o=>
   have:=c6 ea oe6 e6 nf6 (.inl ⟨o,q⟩);rw[fl6.2.1]at this;cases this
 refine qBk (X:=XE X ea oe6 λ_ _=>False) I8 hN hi hk λs9 I9=>fin _ _ s9 oe6 hc6 ?_ (qH1 I9) (I9.pin (ea,oe6) (wM ..)).2.1 b2 b4 (λp hp z=>?_) (qGK I.ok I9) r
 ·cases q:X.s₀.heap.get? ea with
  |none=>rfl
  |some o=>
   obtain⟨o',e'⟩:=I.base.there ea o q (by rw[hex];simp);rw[s0n]at e';cases e'
 ·have:=(I.pin p hp).1;rw[z,s0n]at this;cases this
end
structure Xs(K:Frag)(mg:Str->Option Value)(cn:List Str):Prop where
 nn:∀x∈cn,∃C,mg x=some (.ref C)/\nsIn K mainGlobals x=some (some (.ref C))/\l8 K C/\kitOne K (.ref C) (.type "ValueError")=some true
 sn:∀x∈cn,∀y∈cn,∀C D,mg x=some (.ref C)->mg y=some (.ref D)->kitOne K (.ref C) (.ref D)=some (G8 x y)
section
variable{X:Cx}{G:List Addr}{F:Nat->List V->AH->RV}{cn:List Str}
theorem X7{φ:List Addr}{h:AH}{H:Hp}{s:Shared}{pins:List (Addr×Obj)}{σ:_L.St}{p:Nat}{w:V}{u:Value}{c:Str}(xs:Xs X.K X.mg cn)(I:Inv X pins σ H s)(R:Rl X.K G φ h H)(r:rv φ (.ref p) w)(ru:RelV w u)(e:Jb h p=some c)(hc:c∈cn):
  ∃a C oe,u=.ref a/\X.mg c=some (.ref C)/\l8 X.K C/\s.heap.get? a=some oe/\oe.cls=.ref C/\kitOne X.K (.ref C) (.type "ValueError")=some true:=by
 obtain⟨a,rfl,ea⟩:=qJ r;cases (show u=Value.ref a from ru);obtain⟨a',C,e1,e2,e3⟩:=R.exn e;rw[ea]at e1;cases e1;obtain⟨C',m1,m2,m3,m4⟩:=xs.nn c hc;rw[e2]at m2;cases m2;obtain⟨⟨oe,h1,h2⟩,_⟩:=I.hok _ _ e3;exact⟨a,C,oe,rfl,m1,m3,h1,h2,m4⟩
def rX1(K:Frag)(G:List Addr)(cn:List Str)(k:Str)(cv:V):List V->Hp->VK->Prop:=λxs H Q=>∃φ h p w c,xs=[w,cv]/\Rl K G φ h H/\rv φ (.ref p) w/\Jb h p=some c/\c∈cn/\Q (.bl (G8 c k)) H
theorem L8{k:Str}{cv:V}{u:Value}(xs:Xs X.K X.mg cn)(hu:∀w,RelV cv w->w=u)(hk:∀c∈cn,∀C,X.mg c=some (.ref C)->kitOne X.K (.ref C) (.type "ValueError")=some true->kitOne X.K (.ref C) u=some (G8 c k)):CallR X (.builtin "isinstance") (rX1 X.K G cn k cv):=by
 intro pins s σ H ys us Q I r ⟨φ,h,p,w,c,e,R,rw',ec,hc,q⟩;subst e;obtain⟨u1,u2,rfl,r1,r2⟩:=_L.vals2 r;cases hu u2 r2;obtain⟨a,C,oe,rfl,m1,m2,h1,h2,m4⟩:=X7 xs I R rw' r1 ec hc;exact kia_one (j5 m2) I.kIn ⟨oe,h1,h2⟩ (hk c hc C m1 m4) (λz=>nomatch z) λtk=>⟨.bl _,H,I.tok tk,rfl,q⟩
theorem qBj{ea:Expr}{a:E}{k:Str}{p pc pos:Pos}{cv:V}{te:TE}(xs:Xs X.K X.mg cn)(hcall:CallR X (.builtin "isinstance") (rX1 X.K G cn k cv))(hg:_L.Gl X "isinstance")(hm:X.mg "isinstance"=none)(hv:PE X (.Name k pc) (_L.tC cv))(hn:qK ea=true)(ha:SE X G F ea a):
  SE X G F (.Call (.Name "isinstance" p) [ea,.Name k pc] [] pos) (.isx a cn [k]):=by
 refine zD (_L.pe_callB hcall hg hm PyProof.Rows.boot_isinstance (_L.pa_cons ha (_L.pa_cons hv _L.pa_nil rfl) (qE hn)) (by decide) (by decide) (qE hn) rfl) λσc H Q q=>?_;obtain⟨φ,h,σ,v,h',R,rs,e,kk⟩:=q;unfold ev at e;obtain⟨⟨x,h1⟩,e1,e⟩:=tK e;refine⟨φ,h,σ,x,h1,R,rs,e1,λφ1 H1 w x1 R1 r1=>?_⟩;dsimp only at e;obtain⟨pp,ep,e9⟩:=za e;subst ep
 try dsimp only at e9
 split at e9
 ·rename_i c ec;split at e9
  ·rename_i hc;cases e9;refine⟨φ1,_,pp,w,c,rfl,R1,r1,ec,vK.mp hc,?_⟩;have:=kk φ1 H1 (.bl ([k].any (G8 c))) x1 R1 rfl;simpa using this
  ·cases e9
 ·cases e9
theorem qAu{σ0:Unit}:∀{ks:List Str}{es:List Expr}{Ds:List Addr},Paired (λ(k:Str) (e:Expr)=>∃p,e=.Name k p/\_L.Gl X k/\(k==("__debug__":Str))=false) ks es->Paired (λk D=>X.mg k=some (.ref D)) ks Ds->PA X es (λσ H Q=>Q (Ds.map .ref) H)
 | [],_,_,.nil,.nil=>_L.pa_nil
 |k::ks,_,_,.cons ⟨p,e,g,d⟩ t,.cons m t2=>by
  subst e;exact qCv (_L.pa_cons (_L.pe_glob (v:=.ref _) g m rfl d) (qAu (σ0:=σ0) t t2) rfl) λσ H Q q=>q
theorem A8{K:Frag}{t:Value}{g:Str->Bool}:∀{ks:List Str}{Ds:List Addr},Paired (λk D=>kitOne K t (.ref D)=some (g k)) ks Ds->kitAny K t (Ds.map .ref)=some (ks.any g)
 | [],_,.nil=>rfl
 |k::ks,_,.cons h r=>by
  rw[List.map_cons,kitAny,h];cases hk:g k with
  |true=>simp[hk]
  |false=>simp[hk,A8 r]
theorem Jn:∀{Ds:List Addr}{us:List Value},Vals (Ds.map .ref) us->us=Ds.map .ref
 | [],_,.nil=>rfl
 |D::Ds,_,.cons h r=>by rw[List.map_cons,<-Jn r];cases (show _=Value.ref D from h);rfl
def rXT(K:Frag)(mg:Str->Option Value)(G:List Addr)(cn ks:List Str):List V->Hp->VK->Prop:=λxs H Q=>∃φ h p w c tp Ds,xs=[w,.ref tp]/\Rl K G φ h H/\rv φ (.ref p) w/\Jb h p=some c/\c∈cn/\H tp=some (.tup (Ds.map .ref))/\Paired (λk D=>k∈cn/\mg k=some (.ref D)) ks Ds/\Q (.bl (ks.any (G8 c))) H
theorem qAF{ks:List Str}(xs:Xs X.K X.mg cn):CallR X (.builtin "isinstance") (rXT X.K X.mg G cn ks):=by
 intro pins s σ H ys us Q I r ⟨φ,h,p,w,c,tp,Ds,e,R,rw',ec,hc,ht,hD,q⟩;subst e;obtain⟨u1,u2,rfl,r1,r2⟩:=_L.vals2 r;cases (show u2=Value.ref tp from r2);obtain⟨a,C,oe,rfl,m1,m2,h1,h2,m4⟩:=X7 xs I R rw' r1 ec hc;obtain⟨_,its,rv',o,g1,g2,n,g3⟩:=I.hok _ _ ht;cases Jn rv';have hob:s.heap.get? tp=some ⟨.type "tuple",o.dict,.seq (Ds.map Value.ref).toArray n,o.slots⟩:=by
  rw[g1];obtain⟨oc,od,oda,os⟩:=o;simp only at g2 g3;rw[g2,g3]
 exact kia_tup (j5 m2) I.kIn ⟨oe,h1,h2⟩ hob (A8 (g:=G8 c) (_L.Paired.mapP hD λk D z=>xs.sn c hc k z.1 C D m1 z.2)) (λz=>nomatch z) λtk=>⟨.bl _,H,I.tok tk,rfl,q⟩
theorem qCr{ea:Expr}{a:E}{ks:List Str}{es:List Expr}{Ds:List Addr}{p pos tpos:Pos}{x1}(xs:Xs X.K X.mg cn)(hg:_L.Gl X "isinstance")(hm:X.mg "isinstance"=none)(hes:Paired (λ(k:Str) (e:Expr)=>∃p,e=.Name k p/\_L.Gl X k/\(k==("__debug__":Str))=false) ks es)(hD:Paired (λk D=>k∈cn/\X.mg k=some (.ref D)) ks Ds)(hl:Ds.length<=sizeLine)
  (hn:qK ea=true) (ha:SE X G F ea a):SE X G F (.Call (.Name "isinstance" p) [ea,.Tuple es x1 tpos] [] pos) (.isx a cn ks):=by
 refine zD (_L.pe_callB (qAF (G:=G) (ks:=ks) xs) hg hm PyProof.Rows.boot_isinstance (_L.pa_cons ha (_L.pa_cons (_L.pe_tup (qAu (σ0:=()) hes (_L.Paired.mapP hD λ_ _ z=>z.2))) _L.pa_nil rfl) (qE hn)) (by decide) (by decide) (qE hn) rfl) λσc H Q q=>?_;obtain⟨φ,h,σ,v,h',R,rs,e,kk⟩:=q;unfold ev at e;obtain⟨⟨x,h1⟩,e1,e⟩:=tK e;refine⟨φ,h,σ,x,h1,R,rs,e1,λφ1 H1 w x1 R1 r1=>?_⟩;dsimp only at e;obtain⟨pp,ep,e9⟩:=za e;subst ep
 try dsimp only at e9
 split at e9
 ·rename_i c ec;split at e9
  ·rename_i hc;cases e9;refine⟨by simpa using hl,λtp htp=>⟨φ1,_,pp,w,c,tp,Ds,rfl,R1.more htp,r1,ec,vK.mp hc,_L.upd_same,hD,kk φ1 _ _ x1 (R1.more htp) rfl⟩⟩
  ·cases e9
 ·cases e9
end
set_option genInjectivity false in structure Gam where
 N:List Str
 sc:Scope
 fns:List Str
 gl:List (Str×E)
 bl:List Str
 own:Str->Bool
 cls:List Str:=[]
 xr:Bool:=false
noncomputable def slot(N:List Str)(x:Str):Option Nat:=(List.range N.length).find? λi=>N[i]?==some x
theorem zC{N:List Str}{x:Str}{i:Nat}(h:slot N x=some i):N[i]?=some x:=by
 unfold slot at h;simpa using List.find?_some h
noncomputable def qF2(sc:Scope)(x:Str):Bool:=match sc.names.lookup x with|some .local=>true|some .cell=>true|some .free=>true|_=>false
theorem qB5{sc:Scope}{x:Str}(h:qF2 sc x=true):_L.Vis sc x:=by
 unfold qF2 at h;unfold _L.Vis;split at h<;>first|(rename_i e;simp[e])|cases h
noncomputable def glB(sc:Scope)(x:Str):Bool:=sc.names.lookup x==some .globalImplicit
noncomputable def okN(x:Str):Bool:=!(x==("__debug__":Str))&&!(x==("__classdict__":Str))&&!decide (x="__name__")
noncomputable def qHL:Operator->Option BOp
 | .Add=>some .add | .Sub=>some .sub | .Mult=>some .mul | .FloorDiv=>some .fdiv | .Mod=>some .mod | .Pow=>some .pow | .BitAnd=>some .band | .LShift=>some .shl|_=>none
theorem qBo{o:Operator}{b:BOp}(h:qHL o=some b):o=opB b:=by
 cases o<;>cases h<;>rfl
noncomputable def QZ:CmpOp->COp
 | .Lt=>.lt | .LtE=>.le | .Gt=>.gt | .GtE=>.ge | .Eq=>.eq | .NotEq=>.ne | .In=>.inn | .NotIn=>.notin | .Is=>.is | .IsNot=>.isnot
theorem QM(o:CmpOp):o=opC (QZ o):=by cases o<;>rfl
noncomputable def JI:Expr->Bool
 | .Set ..=>false
 |_=>true
noncomputable def L4:Expr->Bool
 | .Call ..=>false
 |_=>true
noncomputable def bfL:List (Str×BF):=[("len",.len),("sum",.sum),("all",.all),("max",.max),("min",.min),("abs",.abs),("list",.list),("int",.int),("sorted",.sorted)]
noncomputable def qFe(x:Str):Option BF:=bfL.lookup x
theorem ZY{x:Str}{f:BF}:∀{l:List (Str×BF)},l.lookup x=some f->(x,f)∈l
 | [],h=>by cases h
 | (a,b)::l,h=>by
  rw[List.lookup_cons]at h;split at h
  ·rename_i e;cases h;rw[eq_of_beq e];exact wM ..
  ·exact wI _ (ZY h)
theorem qDq:∀p∈bfL,bootBuiltins p.1=some (fnB p.2):=
 we.mpr ⟨PySem.boot_len,we.mpr ⟨PyProof.Rows.boot_sum,we.mpr ⟨PyProof.Rows.boot_all,we.mpr ⟨PyProof.Rows.boot_max,we.mpr ⟨PyProof.Rows.boot_min,we.mpr ⟨PyProof.Rows.boot_abs,we.mpr ⟨PyProof.Rows.boot_list,we.mpr ⟨PyProof.Rows.boot_int,we.mpr ⟨PyProof.Rows.boot_sorted,(λ_ h=>absurd h wg)⟩⟩⟩⟩⟩⟩⟩⟩⟩
theorem X8{x:Str}{f:BF}(h:qFe x=some f):bootBuiltins x=some (fnB f):=qDq _ (ZY h)
noncomputable def mt0(m:Str):Option Mt:=if m="clear" then some .clr else none
noncomputable def mxA(b:BF)(as:List Expr):BF:=if decide (b=.max)&&decide (as.length=1) then .maxl else b
theorem qEV{x:Str}{f:BF}{as:List Expr}(h:qFe x=some f):bootBuiltins x=some (fnB (mxA f as)):=by
 unfold mxA;split
 ·rename_i c;rw[wC,uH]at c;rw[X8 h,c.1];rfl
 ·exact X8 h
noncomputable def qGW(x:Str):Option String:=
 if x="int" then some "int" else if x="bool" then some "bool" else if x="list" then some "list" else if x="tuple" then some "tuple" else if x="str" then some "str" else if x="dict" then some "dict" else none
theorem qBe{x:Str}{t:String}(h:qGW x=some t):bootBuiltins x=some (.type t)/\JT t=true:=by
 unfold qGW at h
 repeat' split at h
 all_goals first|cases h|skip
 all_goals (rename_i hx;subst hx)
 ·exact⟨PyProof.Rows.boot_int,by decide⟩
 ·exact⟨PyProof.Rows.boot_bool,by decide⟩
 ·exact⟨PyProof.Rows.boot_list,by decide⟩
 ·exact⟨PyProof.Rows.boot_tuple,by decide⟩
 ·exact⟨PyProof.Rows.boot_str,by decide⟩
 ·exact⟨PyProof.Rows.boot_dict,by decide⟩
noncomputable def qFO(scope sc:Scope):Scope:=
 { scope with names:=scope.names.map λ(n,k)=>if (k==.free&&sc.kind==.function&&sc.names.lookup n==some .cell) then (n,.cell) else (n,k) }
noncomputable def V3:Expr->List Str
 | .Name x _=>[x]
 | .Tuple es _ _=>es.filterMap λe:Expr=>match e with | .Name x _=>some x|_=>none
 |_=>[]
noncomputable def qEb(scope:Scope):List Str:=scope.names.filterMap λy=>if y.2=.free then some y.1 else none
noncomputable def JD(Γ:Gam)(scope:Scope)(N:List Str)(src:List (Option Nat)):Bool:=
 decide (scope.kind=.function)&&scope.names.all (λy=>decide (scope.names.lookup y.1=some y.2))
 && scope.names.all (λy=>decide (y.2=.free->(Γ.sc.names.lookup y.1=some .cell\/Γ.sc.names.lookup y.1=some .free)))&&decide N.Nodup&&decide (src.length=N.length)
 && (List.range N.length).all (λi=>match N[i]?,src[i]? with|some x,some (some j)=>decide (Γ.N[j]?=some x/\scope.names.lookup x=some .free)|_,_=>true)
noncomputable def Zl(Γ:Gam)(x:Str):Bool:=match Γ.sc.names.lookup x with|some .local=>true|some .cell=>Γ.own x|_=>false
noncomputable def qFM(Γ:Gam):List Expr->Option (List Nat)
 | []=>some []
 | .Name x _::r=>if Zl Γ x then (match slot Γ.N x,qFM Γ r with|some i,some is=>some (i::is)|_,_=>none) else none
 |_=>none
noncomputable def trT(Γ:Gam):Expr->Option Tg
 | .Name x _=>if Zl Γ x then (slot Γ.N x).map .name else none
 | .Tuple es _ _=>(qFM Γ es).map .tup
 |_=>none
noncomputable def qGc:List Expr->Bool
 | [.Call (.Name r _) [_] [] _]=>decide (r="range")
 | [.Call (.Name r _) [_,_] [] _]=>decide (r="range")
 |_=>false
noncomputable def qGg(Γ:Gam)(t:Str):Bool:=okN t&&glB Γ.sc t&&(Γ.cls.contains t||(decide (t="ValueError")&&Γ.bl.contains t))
noncomputable def qEG(Γ:Gam):List Expr->Option (List Str)
 | []=>some []
 |e::r=>match e with
  | .Name k _=>if okN k&&glB Γ.sc k&&Γ.cls.contains k then (qEG Γ r).map (k::·) else none
  |_=>none
noncomputable def qHG:E->Bool
 |_=>true
mutual
noncomputable def trE:Nat->Gam->Expr->Option E
 | 0,_,_=>none
 |n+1,Γ,e=>match e with
  | .Constant c _ _=>(match c with
   | .int i=>some (.cst (.int i))
   | .bool i=>some (.cst (.bl i))
   | .none=>some (.cst .non)
   | .str i=>some (.cst (.str i))
   |_=>none)
  | .Name x _=>if okN x then (if qF2 Γ.sc x then (slot Γ.N x).map .var else if glB Γ.sc x then Γ.gl.lookup x else none) else none
  | .BinOp a op b _=>match qHL op,trE n Γ a,trE n Γ b with|some o,some a',some b'=>some (.bin o a' b')|_,_,_=>none
  | .UnaryOp op a _=>(match op with
   | .USub=>(trE n Γ a).map .neg
   | .Not=>(trE n Γ a).map .not
   |_=>none)
  | .BoolOp op vs p=>trB n Γ op p vs
  | .IfExp c a b _=>match trE n Γ c,trE n Γ a,trE n Γ b with|some c',some a',some b'=>some (.ite c' a' b')|_,_,_=>none
  | .Compare a ops bs _=>(match ops,bs with
   | [op],[b]=>if JI b then (match trE n Γ a,trE n Γ b with|some a',some b'=>some (.cmp (QZ op) a' b')|_,_=>none) else none
   | [o1,o2],[b,c]=>if JI c then (match trE n Γ a,trE n Γ b,trE n Γ c with|some a',some b',some c'=>some (.cmp2 (QZ o1) (QZ o2) a' b' c')|_,_,_=>none) else none
   | [o1,o2,o3],[b,c,d]=>if JI d then (match trE n Γ a,trE n Γ b,trE n Γ c,trE n Γ d with|some a',some b',some c',some d'=>some (.cmp3 (QZ o1) (QZ o2) (QZ o3) a' b' c' d')|_,_,_,_=>none) else none
   |_,_=>none)
  | .Call fn args kws cpos=>(match kws with
   | []=>(match fn with
    | .Name f _=>if okN f&&glB Γ.sc f&&args.all qK then trC n Γ f args else none
    | .Attribute o m apos=>(match args with
     | [x]=>if m="append"/\L4 o=true/\qK x=true/\(apos.endLine==cpos.line)=true then (match trE n Γ o,trE n Γ x with|some o',some x'=>some (.app o' x')|_,_=>none)
   else if m="extend"/\L4 o=true/\qK x=true/\(apos.endLine==cpos.line)=true then (match trE n Γ o,trE n Γ x with|some o',some x'=>some (.meth .ext o' (.cons x' .nil))|_,_=>none) else none
     | []=>if L4 o=true/\(apos.endLine==cpos.line)=true then (match trE n Γ o,mt0 m with|some o',some k=>some (.meth k o' .nil)|_,_=>none) else none
     |_=>none)
    |_=>none)
   |_=>none)
  | .Subscript a b _=>(match b with
   | .Slice lo hi st _=>(match st with
    |none=>(match trE n Γ a,trO n Γ lo,trO n Γ hi with|some a',some l,some h=>some (.sl a' l h)|_,_,_=>none)
    |some _=>none)
   |b=>if Qy b then (match trE n Γ a,trE n Γ b with|some a',some b'=>some (.idx a' b')|_,_=>none) else none)
  | .List es _=>if es.all qK then (trA n Γ es).map .lst else none
  | .Tuple es _ _=>if es.all qK then (trA n Γ es).map .tup else none
  | .Dict ks vs _=>(match ks,vs with|[],[]=>some .dnew|_,_=>none)
  | .ListComp elt gens scope _=>(match gens with
   | [gen]=>(match gen with
    | ⟨tg,iter,ifs,asy⟩=>(match asy with
     | 0=>
      let N:=V3 tg++qEb scope
      let src:=(V3 tg).map (λ_=>none)++(qEb scope).map (slot Γ.N)
      let Γ':Gam:={ Γ with N:=N,sc:=qFO scope Γ.sc,own:=λx=>decide (scope.names.lookup x=some .cell) }
      if JD Γ scope N src&&JI iter then (match trI n Γ tg iter,trT Γ' tg,qDB n Γ' ifs,trE n Γ' elt with|some it,some g,some c,some e'=>some (.comp it src g c e')|_,_,_,_=>none) else none
     |_=>none))
   |_=>none)
  |_=>none
noncomputable def trA:Nat->Gam->List Expr->Option Es
 | 0,_,_=>none
 |_+1,_,[]=>some .nil
 |n+1,Γ,e::es=>match trE n Γ e,trA n Γ es with|some a,some as=>some (.cons a as)|_,_=>none
noncomputable def trB:Nat->Gam->BoolOp->Pos->List Expr->Option E
 | 0,_,_,_,_=>none
 |_+1,_,_,_,[]=>none
 |n+1,Γ,_,_,[a]=>trE n Γ a
 |n+1,Γ,op,p,a::b::r=>match trE n Γ a,trB n Γ op p (b::r) with|some a',some b'=>some (match op with | .And=>.and a' b' | .Or=>.or a' b')|_,_=>none
noncomputable def trC:Nat->Gam->Str->List Expr->Option E
 | 0,_,_,_=>none
 |n+1,Γ,f,args=>match slot Γ.fns f with
  |some i=>(trA n Γ args).map (.call i)
  |none=>if Γ.bl.contains f then
    (if f="isinstance" then (match args with
     | [a,.Tuple es _ _]=>(match qEG Γ es with|some ks=>if ks.length<=1000 then (trE n Γ a).map (λa'=>.isx a' Γ.cls ks) else none|none=>none)
     | [a,.Name t _]=>if qGg Γ t then (trE n Γ a).map (λa'=>.isx a' Γ.cls [t]) else if okN t&&glB Γ.sc t&&Γ.bl.contains t then (match trE n Γ a,qGW t with|some a',some t'=>some (.isi a' [t'])|_,_=>none) else none
     |_=>none)
    else if f="list"/\qGc args=true then (match args with
     | [.Call (.Name r _) [a] [] _]=>if okN r&&glB Γ.sc r&&Γ.bl.contains r&&qK a&&decide (r="range") then (trE n Γ a).map .lrng else none
     |_=>none)
    else match qFe f,args with
     |some b,_::_=>(trA n Γ args).map (.blt (mxA b args))
     |_,_=>none)
   else none
noncomputable def trO:Nat->Gam->Option Expr->Option Es
 | 0,_,_=>none
 |_+1,_,none=>some .nil
 |n+1,Γ,some e=>(trE n Γ e).map λa=>.cons a .nil
noncomputable def qDB:Nat->Gam->List Expr->Option Es
 | 0,_,_=>none
 |_+1,_,[]=>some .nil
 |n+1,Γ,[c]=>(trE n Γ c).map λa=>.cons a .nil
 |_,_,_=>none
noncomputable def trI:Nat->Gam->Expr->Expr->Option Itr
 | 0,_,_,_=>none
 |n+1,Γ,tg,iter=>match iter with
  | .Call (.Name f _) args [] _=>
   if f="range" then (if glB Γ.sc f&&Γ.bl.contains f&&args.all qK then (match args with
    | [a]=>(trE n Γ a).map .rng1
    |_=>none) else none)
   else if f="zip" then (if glB Γ.sc f&&Γ.bl.contains f&&args.all qK then (match tg,args with
    | .Tuple ..,[a,b]=>match trE n Γ a,trE n Γ b with|some a',some b'=>some (.zip a' b')|_,_=>none
    |_,_=>none) else none)
   else if f="enumerate" then (if glB Γ.sc f&&Γ.bl.contains f&&args.all qK then (match tg,args with
    | .Tuple ..,[a]=>(trE n Γ a).map .enum
    |_,_=>none) else none)
   else if f="reversed" then (if glB Γ.sc f&&Γ.bl.contains f&&args.all qK then (match args with
    | [a]=>(trE n Γ a).map .revd
    |_=>none) else none)
   else (trE n Γ iter).map .list
  |_=>(trE n Γ iter).map .list
end
noncomputable def qHU(Γ:Gam)(x y:Str)(px py:Pos)(va vb:Expr):Bool:=
 (if Γ.sc.kind.isAnnotationScope then ScopeKind.function else Γ.sc.kind)==.function&&Γ.sc.names.lookup x==some .local&&Γ.sc.names.lookup y==some .local&&decide (py.line=px.line)&&qK va&&qK vb&&!([va,vb].all (foldedForSure 8))&&!([va,vb].all (constantsAlone 8))&&decide (x≠y)
noncomputable def xOf(Γ:Gam)(e:Expr):Option (Nat×Es):=match e with
 | .Call fn args kws _=>(match fn,args,kws with
  | .Name f _,a::r,[]=>if okN f&&glB Γ.sc f&&(a::r).all qK then (match slot Γ.fns f,trA 60 Γ (a::r) with|some i,some as=>some (i,as)|_,_=>none) else none
  |_,_,_=>none)
 |_=>none
noncomputable def rOf(Γ:Gam)(ex ca:Option Expr):Option Nat:=match ca with
 |none=>(match ex with
  |some (.Call fn args kws _)=>(match fn,args,kws with
   | .Name x _,[.Constant (.str _) _ _],[]=>if okN x&&glB Γ.sc x then slot Γ.cls x else none
   |_,_,_=>none)
  |_=>none)
 |_=>none
noncomputable def hE(Γ:Gam)(hs:List ExceptHandler):Option (Nat×Nat):=match hs with
 | [.ExceptHandler ty nm body _]=>(match ty,nm,body with
  |some (.Name x _),some n,[.Assign ts v _]=>(match ts,v with
   | [.Name y _],.Name m _=>
    if okN x&&glB Γ.sc x&&okN n&&(slot Γ.cls x==some 0)&&(Γ.sc.names.lookup n==some .local)&&Zl Γ y&&!(n==y)&&m==n then (match slot Γ.N n,slot Γ.N y with|some e,some i=>some (e,i)|_,_=>none) else none
   |_,_=>none)
  |_,_,_=>none)
 |_=>none
noncomputable def Ss.isNil:Ss->Bool
 | .nil=>true
 | .cons _ _=>false
mutual
noncomputable def S.sole:S->Bool
 | .xexpr _ _=>true
 | .ifs _ t u=>t.sole&&u.sole
 |_=>false
noncomputable def Ss.sole:Ss->Bool
 | .nil=>true
 | .cons s r=>s.sole&&r.isNil
end
mutual
noncomputable def S.clean:S->Bool
 | .xexpr _ _=>true
 | .raise _=>true
 | .ifs _ t u=>t.clean&&u.clean
 |s=>s.calm
noncomputable def Ss.clean:Ss->Bool
 | .nil=>true
 | .cons s r=>s.clean&&r.clean
end
mutual
noncomputable def trS:Nat->Gam->Stmt->S
 | 0,_,_=>.stop
 |n+1,Γ,st=>match st with
  | .Assign ts v _=>(match ts with
   | [tgt]=>(match tgt with
    | .Name x _=>(match trT Γ (.Name x ⟨0,0,0,0⟩),trE 60 Γ v with|some g,some a=>if qHG a then .asg g a else .stop|_,_=>.stop)
    | .Tuple es k p=>(match es,v with
     | [.Name x px,.Name y py],.Tuple [va,vb] _ _=>if qHU Γ x y px py va vb then (match slot Γ.N x,slot Γ.N y,trE 60 Γ va,trE 60 Γ vb with|some i,some j,some a,some b=>if i=j then .stop else .par i j a b|_,_,_,_=>.stop) else .stop
     |_,_=>.stop)
    | .Subscript o i _=>if jo v&&Qy i then (match trE 60 Γ o,trE 60 Γ i,trE 60 Γ v with|some o',some i',some v'=>.put o' i' v' | _,_,_=>.stop) else .stop
    |_=>.stop)
   |_=>.stop)
  | .Expr e _=>if jo e then (match xOf Γ e with|some p=>.xexpr p.1 p.2|none=>(match trE 60 Γ e with|some a=>.expr a|none=>.stop)) else .stop
  | .Raise ex ca _=>(match rOf Γ ex ca with|some c=>.raise c|none=>.stop)
  | .Try body hs els fin _=>(match body,els,fin with
   | [st],[],[]=>(match hE Γ hs with
     |some p=>if (trS n Γ st).sole&&(trS n Γ st).clean then .tryE (trS n Γ st) p.1 p.2 Γ.cls else .stop
     |none=>.stop)
   |_,_,_=>.stop)
  | .Return r _=>(match r with
   |some e=>(match trE 60 Γ e with|some a=>.ret a|none=>.stop)
   |none=>.stop)
  | .If c t u _=>match trE 60 Γ c with|some c'=>.ifs c' (Qp n Γ t) (Qp n Γ u)|none=>.stop
  | .For tg iter b els _=>(match els with
   | []=>if JI iter then (match trI 60 Γ tg iter,trT Γ tg with|some it,some g=>.for_ g it (Qp n Γ b)|_,_=>.stop) else .stop
   |_=>.stop)
  | .While c b els _=>(match els with
   | []=>(match trE 60 Γ c with|some c'=>.while_ c' (Qp n Γ b)|none=>.stop)
   |_=>.stop)
  |_=>.stop
noncomputable def Qp:Nat->Gam->List Stmt->Ss
 | 0,_,_=>.cons .stop .nil
 |_+1,_,[]=>.nil
 |n+1,Γ,s::r=>.cons (trS n Γ s) (Qp n Γ r)
end
structure Fit(Γ:Gam)(X:Cx)(G:List Addr)(F:Nat->List V->AH->RV):Prop where
 hN:X.N=Γ.N
 nd:Γ.N.Nodup
 sc:X.env.scope=Γ.sc
 calm:X.calm=true
 fn:∀x,Γ.own x=true->X.fn x=true
 fns:∀(f:Nat) x,Γ.fns[f]?=some x->FnS X G F f x
 gls:∀x e,Γ.gl.lookup x=some e->(∃v u,e=.cst v/\X.mg x=some u/\RelV v u/\∀φ,rv φ v v)\/(∃g a,e=.glob g/\X.mg x=some (.ref a)/\G[g]?=some a)
 blt:∀x,Γ.bl.contains x=true->X.mg x=none
 hu:X.A.units+8<cLine
 gd:X.A.guards=some []
 gtu:∀a∈G,∃o,X.K.lookup a=some o/\o.cls=.type "tuple"/\o.dict=none
 xs:Xs X.K X.mg Γ.cls
section
variable{Γ:Gam}{X:Cx}{G:List Addr}{F:Nat->List V->AH->RV}
theorem jY{x:Str}(h:okN x=true):(x==("__debug__":Str))=false/\(x==("__classdict__":Str))=false/\x≠"__name__":=by
 unfold okN at h;simp only[wC,vg,decide_eq_false_iff_not]at h;exact⟨h.1.1,h.1.2,h.2⟩
theorem Fit.gl'(f:Fit Γ X G F){x:Str}(h:glB Γ.sc x=true):_L.Gl X x:=by
 unfold _L.Gl Env.kindOf;rw[f.sc];simpa [glB] using h
theorem Fit.store(f:Fit Γ X G F){x:Str}(h:Zl Γ x=true):_L.Loc X.env.scope x/\(X.fn x=true\/X.env.scope.names.lookup x=some .local):=by
 rw[f.sc];unfold Zl at h;unfold _L.Loc;split at h
 ·rename_i e;exact⟨.inl e,.inr e⟩
 ·rename_i e;exact⟨.inr e,.inl (f.fn x h)⟩
 ·cases h
theorem qAz(f:Fit Γ X G F):∀{es:List Expr}{is:List Nat},qFM Γ es=some is->PGs X es (tGs is)/\(assignEach es X.env).length=is.length/\(assignEach es X.env).findIdx? (·.1)=none
 | [],is,h=>by
  cases h;exact⟨qCm,rfl,rfl⟩
 |e::es,is,h=>by
  unfold qFM at h;split at h
  ·rename_i e1;cases e1
  ·rename_i x p r e1;cases e1;split at h
   ·rename_i hs;split at h
    ·rename_i i is' ei eis;cases h;obtain⟨h1,h2⟩:=f.store hs;obtain⟨g1,g2,g3⟩:=qAz f eis;refine⟨qAa (by rw[f.hN];exact f.nd) (by rw[f.hN];exact zC ei) h1 h2 g1,?_,?_⟩
     ·show (assignEach es X.env).length+1=_;rw[g2];rfl
     ·show (((false,assign (.Name x p) X.env)::assignEach es X.env).findIdx? (·.1))=none;rw[List.findIdx?_cons,g3];rfl
    ·cases h
   ·cases h
  ·cases h
theorem z8(f:Fit Γ X G F){tg:Expr}{g:Tg}(h:trT Γ tg=some g):SG X G tg g:=by
 unfold trT at h;split at h
 ·rename_i x p;split at h
  ·rename_i hs;obtain⟨i,ei,rfl⟩:=wA.mp h;obtain⟨h1,h2⟩:=f.store hs;exact Y1 (by rw[f.hN];exact f.nd) (by rw[f.hN];exact zC ei) h1 h2
  ·cases h
 ·obtain⟨is,ei,rfl⟩:=wA.mp h;obtain⟨g1,g2,g3⟩:=qAz f ei;exact qEW f.calm g1 g2 g3
 ·cases h
theorem G7{op:CmpOp}{e:Expr}(h:JI e=true):behindInMarks op e=false:=by
 cases e<;>first|rfl|cases h
theorem S9{o1 o2:CmpOp}{b c:Expr}(h:JI c=true):lastMarks [o1,o2] [b,c]=false:=by
 show behindInMarks o2 c=false;exact G7 h
theorem V0{o1 o2 o3:CmpOp}{b c d:Expr}(h:JI d=true):lastMarks [o1,o2,o3] [b,c,d]=false:=by
 show behindInMarks o3 d=false;exact G7 h
theorem W6{iter:Expr}{env:Env}(h:JI iter=true):∀x,foldedSetIterable iter env x=pure x:=by
 intro x;cases iter<;>first|rfl|cases h
theorem R6{o:Expr}{n:Str}{env:Env}{w:Sem Value}(h:L4 o=true):attributeBase o n env w=w:=by
 cases o<;>first|rfl|cases h
theorem QL(f:Fit Γ X G F){scope:Scope}{N:List Str}{src:List (Option Nat)}(h:JD Γ scope N src=true):_L.CompScope X scope N src:=by
 unfold JD at h;simp only[wC,wU,uH]at h;obtain⟨⟨⟨⟨⟨h1,h2⟩,h4⟩,h5⟩,h6⟩,h7⟩:=h;refine⟨h1,h2,λy hy hk=>?_,h5,h6,λi x j e1 e2=>?_⟩
 ·unfold Env.kindOf;rw[f.sc];exact h4 y hy hk
 ·have hi:i<N.length:=(wB.mp e1).1;have:=h7 i (wY.mpr hi);rw[e1,e2]at this;rw[f.hN];simpa using this
theorem jN(f:Fit Γ X G F){scope:Scope}{N:List Str}{src:List (Option Nat)}(h:JD Γ scope N src=true)(C:Addr)(fp:List Addr)(s:Shared)(H:Hp):
  Fit { Γ with N:=N,sc:=qFO scope Γ.sc,own:=λx=>decide (scope.names.lookup x=some .cell) } (_L.cxComp X scope C fp s H N) G F:=by
 have S:=QL f h;refine⟨rfl,S.nd,?_,f.calm,λx z=>z,λg x e=>?_,f.gls,f.blt,f.hu,f.gd,f.gtu,f.xs⟩
 ·show relabel scope X.env=qFO scope Γ.sc;unfold relabel qFO Env.kindOf;rw[f.sc]
 ·exact⟨(f.fns g x e).ex⟩
theorem qAJ{m:Str}{k:Mt}{o:Expr}{a:E}{apos cpos:Pos}(hk:mt0 m=some k)(hbase:attributeBase o m X.env (eval o X.env)=eval o X.env)(hline:(apos.endLine==cpos.line)=true)(ha:SE X G F o a):SE X G F (.Call (.Attribute o m apos) [] [] cpos) (.meth k a .nil):=by
 unfold mt0 at hk;split at hk
 ·rename_i e;subst e;cases hk;exact qCf hbase hline ha
 ·cases hk
theorem qCz(f:Fit Γ X G F){t:Str}{pc:Pos}(h:qGg Γ t=true):∃cv,_L.CallR X (.builtin "isinstance") (rX1 X.K G Γ.cls t cv)/\PE X (.Name t pc) (_L.tC cv):=by
 unfold qGg at h;simp only[wC,vT,uH]at h;obtain⟨⟨h1,h2⟩,h3⟩:=h;obtain⟨t1,t2,t3⟩:=jY h1;rcases h3 with h3|⟨rfl,hb⟩
 ·have hc:=vK.mp h3;obtain⟨D,m1,m2,m3,m4⟩:=f.xs.nn t hc;exact⟨.ref D,L8 (u:=.ref D) f.xs (λw r=>r) λc hc' C hC _=>f.xs.sn c hc' t hc C D hC m1,_L.pe_glob (v:=.ref D) (f.gl' h2) m1 rfl t1⟩
 ·refine⟨.ty "ValueError",L8 (u:=.type "ValueError") f.xs (λw r=>r) λc hc' C hC hv=>?_,_L.pe_bltn (v:=.ty "ValueError") (f.gl' h2) (f.blt _ hb) (by decide +kernel) rfl (by decide) (by decide)⟩;rw[hv];unfold G8;simp
theorem j4(f:Fit Γ X G F):∀{es:List Expr}{ks:List Str},qEG Γ es=some ks->Paired (λ(k:Str) (e:Expr)=>∃p,e=.Name k p/\_L.Gl X k/\(k==("__debug__":Str))=false) ks es/\∃Ds:List Addr,Paired (λk D=>k∈Γ.cls/\X.mg k=some (.ref D)) ks Ds
 | [],ks,h=>by unfold qEG at h;cases h;exact⟨.nil,[],.nil⟩
 |e::es,ks,h=>by
  unfold qEG at h;split at h
  ·rename_i k p;split at h
   ·rename_i hc;simp only[wC]at hc;obtain⟨ks',e1,rfl⟩:=wA.mp h;obtain⟨a,Ds,b⟩:=j4 f e1;have hm:=vK.mp hc.2;obtain⟨D,m1,_⟩:=f.xs.nn k hm;exact⟨.cons ⟨p,rfl,f.gl' hc.1.2,(jY hc.1.1).1⟩ a,D::Ds,.cons ⟨hm,m1⟩ b⟩
   ·cases h
  ·cases h
theorem Qf(n:Nat):
  (∀ Γ e a,trE n Γ e=some a->∀X:Cx,Fit Γ X G F->SE X G F e a/\ST X G F e a)/\
  (∀ Γ es as,trA n Γ es=some as->es.all qK=true->∀X:Cx,Fit Γ X G F->SA X G F es as)/\
  (∀ Γ op p vs a,trB n Γ op p vs=some a->∀X:Cx,Fit Γ X G F->SE X G F (.BoolOp op vs p) a/\SW X G F (.BoolOp op vs p) a)/\
  (∀ Γ f args a,trC n Γ f args=some a->okN f=true->glB Γ.sc f=true->args.all qK=true->∀X:Cx,Fit Γ X G F->∀p pos,SE X G F (.Call (.Name f p) args [] pos) a)/\
  (∀ Γ o as,trO n Γ o=some as->∀X:Cx,Fit Γ X G F->SO X G F o as)/\
  (∀ Γ ifs as,qDB n Γ ifs=some as->∀X:Cx,Fit Γ X G F->SC X G F ifs as)/\
  (∀ Γ tg iter it,trI n Γ tg iter=some it->∀X:Cx,Fit Γ X G F->SI X G F tg iter it):=by
 induction n with
 |zero=>exact⟨(λ_ _ _ h=>by unfold trE at h;cases h),(λ_ _ _ h=>by unfold trA at h;cases h),(λ_ _ _ _ _ h=>by unfold trB at h;cases h),(λ_ _ _ _ h=>by unfold trC at h;cases h),(λ_ _ _ h=>by unfold trO at h;cases h),(λ_ _ _ h=>by unfold qDB at h;cases h),(λ_ _ _ _ h=>by unfold trI at h;cases h)⟩
 |succ n ih=>
  obtain⟨iE,iA,iB,iC,iO,iIf,iI⟩:=ih;refine⟨?_,?_,?_,?_,?_,?_,?_⟩
  ·intro Γ e a h X f;unfold trE at h;split at h
   ·split at h
    ·cases h;exact⟨qA0,qc qA0 λ_=>rfl⟩
    ·cases h;exact⟨qD1,qc qD1 λ_=>rfl⟩
    ·cases h;exact⟨qAr,qc qAr λ_=>rfl⟩
    ·cases h;exact⟨qA3,qc qA3 λ_=>rfl⟩
    ·cases h
   ·rename_i x p;split at h
    ·rename_i ho;obtain⟨o1,o2,o3⟩:=jY ho;split at h
     ·rename_i hv;obtain⟨i,ei,rfl⟩:=wA.mp h;have s1:SE X G F (.Name x p) (.var i):=qDG (by rw[f.hN];exact zC ei) (by rw[f.sc];exact qB5 hv) o1 o2;exact⟨s1,qc s1 λ_=>rfl⟩
     ·split at h
      ·rename_i hg;rcases f.gls x a h with⟨v,u,rfl,e1,e2,e3⟩|⟨g,ad,rfl,e1,e2⟩
       ·have s1:SE X G F (.Name x p) (.cst v):=qCe (f.gl' hg) e1 e2 e3 o1;exact⟨s1,qc s1 λ_=>rfl⟩
       ·have s1:SE X G F (.Name x p) (.glob g):=qCQ (f.gl' hg) e1 e2 o1;exact⟨s1,qc s1 λ_=>rfl⟩
      ·cases h
    ·cases h
   ·split at h
    ·rename_i o a' b' eo ea eb;cases h;rw[qBo eo];exact⟨qA4 (iE _ _ _ ea X f).1 (iE _ _ _ eb X f).1,qc (qA4 (iE _ _ _ ea X f).1 (iE _ _ _ eb X f).1) λ_=>rfl⟩
    ·cases h
   ·split at h
    ·obtain⟨a',ea,rfl⟩:=wA.mp h;have s1:=qEI (pos:=‹Pos›) (iE _ _ _ ea X f).1;exact⟨s1,qc s1 λ_=>rfl⟩
    ·obtain⟨a',ea,rfl⟩:=wA.mp h;exact⟨qFI (iE _ _ _ ea X f).1,qEF (iE _ _ _ ea X f).2⟩
    ·cases h
   ·obtain⟨s1,s2⟩:=iB _ _ _ _ _ h X f;exact⟨s1,s2.pt⟩
   ·split at h
    ·rename_i c' a' b' ec ea eb;cases h;exact⟨qEQ (iE _ _ _ ec X f).2 (iE _ _ _ ea X f).1 (iE _ _ _ eb X f).1,qEi (iE _ _ _ ec X f).2 (iE _ _ _ ea X f).2 (iE _ _ _ eb X f).2⟩
    ·cases h
   ·split at h
    ·rename_i op b0;split at h
     ·rename_i hs;split at h
      ·rename_i a' b' ea eb;cases h;rw[QM op];have e1:QZ (opC (QZ op))=QZ op:=by cases op<;>rfl
       rw[e1];exact⟨qEp f.hu (iE _ _ _ ea X f).1 (iE _ _ _ eb X f).1 (G7 hs),qEl f.hu (iE _ _ _ ea X f).1 (iE _ _ _ eb X f).1 (G7 hs)⟩
      ·cases h
     ·cases h
    ·rename_i o1 o2 b0 c0;split at h
     ·rename_i hs;split at h
      ·rename_i a' b' c' ea eb ec;cases h;rw[QM o1,QM o2];have e1:QZ (opC (QZ o1))=QZ o1:=by cases o1<;>rfl
       have e2:QZ (opC (QZ o2))=QZ o2:=by cases o2<;>rfl
       rw[e1,e2];exact⟨qAQ f.hu (iE _ _ _ ea X f).1 (iE _ _ _ eb X f).1 (iE _ _ _ ec X f).1 (S9 hs),v5 f.hu (iE _ _ _ ea X f).1 (iE _ _ _ eb X f).1 (iE _ _ _ ec X f).1 (S9 hs)⟩
      ·cases h
     ·cases h
    ·rename_i o1 o2 o3 b0 c0 d0;split at h
     ·rename_i hs;split at h
      ·rename_i a' b' c' d' ea eb ec ed;cases h;rw[QM o1,QM o2,QM o3];have e1:QZ (opC (QZ o1))=QZ o1:=by cases o1<;>rfl
       have e2:QZ (opC (QZ o2))=QZ o2:=by cases o2<;>rfl
       have e3:QZ (opC (QZ o3))=QZ o3:=by cases o3<;>rfl
       rw[e1,e2,e3];exact⟨W8 f.hu (iE _ _ _ ea X f).1 (iE _ _ _ eb X f).1 (iE _ _ _ ec X f).1 (iE _ _ _ ed X f).1 (V0 hs),S6 f.hu (iE _ _ _ ea X f).1 (iE _ _ _ eb X f).1 (iE _ _ _ ec X f).1 (iE _ _ _ ed X f).1 (V0 hs)⟩
      ·cases h
     ·cases h
    ·cases h
   ·split at h
    ·split at h
     ·split at h
      ·rename_i hc;simp only[wC]at hc;have s1:=iC _ _ _ _ h hc.1.1 hc.1.2 hc.2 X f;exact⟨s1 _ _,qc (s1 _ _) λ_=>rfl⟩
      ·cases h
     ·split at h
      ·split at h
       ·rename_i hc;obtain⟨rfl,hc1,hc2,hc3⟩:=hc;split at h
        ·rename_i o' x' eo ex;cases h;have s1:=qEd (R6 hc1) hc3 hc2 (iE _ _ _ eo X f).1 (iE _ _ _ ex X f).1;exact⟨s1,qc s1 λ_=>rfl⟩
        ·cases h
       ·split at h
        ·rename_i hc;obtain⟨rfl,hc1,hc2,hc3⟩:=hc;split at h
         ·rename_i o' x' eo ex;cases h;have s1:=qEK (R6 hc1) hc3 hc2 (iE _ _ _ eo X f).1 (iE _ _ _ ex X f).1;exact⟨s1,qc s1 λ_=>rfl⟩
         ·cases h
        ·cases h
      ·split at h
       ·rename_i hc;obtain⟨hc1,hc3⟩:=hc;split at h
        ·rename_i o' k eo ek;cases h;have s1:=qAJ ek (R6 hc1) hc3 (iE _ _ _ eo X f).1;exact⟨s1,qc s1 λ_=>rfl⟩
        ·cases h
       ·cases h
      ·cases h
     ·cases h
    ·cases h
   ·split at h
    ·split at h
     ·split at h
      ·rename_i a' l h' ea el eh;cases h;exact⟨qEk (iE _ _ _ ea X f).1 (iO _ _ _ el X f) (iO _ _ _ eh X f),qc (qEk (iE _ _ _ ea X f).1 (iO _ _ _ el X f) (iO _ _ _ eh X f)) λ_=>rfl⟩
      ·cases h
     ·cases h
    ·split at h
     ·rename_i hs;split at h
      ·rename_i a' b' ea eb;cases h;have s1:=qFF (pos:=‹Pos›) hs (iE _ _ _ ea X f).1 (iE _ _ _ eb X f).1;exact⟨s1,qc s1 λ_=>rfl⟩
      ·cases h
     ·cases h
   ·split at h
    ·rename_i hs;obtain⟨a',ea,rfl⟩:=wA.mp h;have s1:=qE9 (pos:=‹Pos›) (iA _ _ _ ea hs X f);exact⟨s1,qc s1 λ_=>rfl⟩
    ·cases h
   ·split at h
    ·rename_i hs;obtain⟨a',ea,rfl⟩:=wA.mp h;exact⟨qBK (iA _ _ _ ea hs X f),qc (qBK (iA _ _ _ ea hs X f)) λ_=>rfl⟩
    ·cases h
   ·split at h
    ·cases h;exact⟨k7,qc k7 λ_=>rfl⟩
    ·cases h
   ·split at h
    ·split at h;split at h
     ·dsimp only at h;split at h
      ·rename_i hc;simp only[wC]at hc;split at h
       ·rename_i it g c e' ei eg ec ee;cases h;have s1:=W7 (pos:=‹Pos›) f.calm (iI _ _ _ _ ei X f) (QL f hc.1) (λC fp s H=>z8 (jN f hc.1 C fp s H) eg) (λC fp s H=>iIf _ _ _ ec _ (jN f hc.1 C fp s H)) (λC fp s H=>(iE _ _ _ ee _ (jN f hc.1 C fp s H)).1) (W6 hc.2);exact⟨s1,qc s1 λ_=>rfl⟩
       ·cases h
      ·cases h
     ·cases h
    ·cases h
   ·cases h
  ·intro Γ es as h hs X f;cases es with
   |nil=>simp only[trA]at h;cases h;exact X5
   |cons e es=>
    simp only[trA]at h;simp only[List.all_cons,wC]at hs;split at h
    ·rename_i a as ea eas;cases h;exact JJ hs.1 (iE _ _ _ ea X f).1 (iA _ _ _ eas hs.2 X f)
    ·cases h
  ·intro Γ op p vs a h X f;cases vs with
   |nil=>simp only[trB]at h;cases h
   |cons e r=>
    cases r with
    |nil=>
     simp only[trB]at h;obtain⟨s1,s2⟩:=iE _ _ _ h X f;refine⟨_L.pe_one s1,?_⟩;cases op with
     |And=>exact _L.pw_and1 s2
     |Or=>exact _L.pw_or1 s2
    |cons b r=>
     simp only[trB]at h;split at h
     ·rename_i a' b' ea eb;cases h;obtain⟨s1,s2⟩:=iE _ _ _ ea X f;obtain⟨s3,s4⟩:=iB _ _ _ _ _ eb X f;cases op with
      |And=>exact⟨qDZ s1 s3,qDH s2 s4⟩
      |Or=>exact⟨qFu s1 s3,qGF s2 s4⟩
     ·cases h
  ·intro Γ g args a h ho hg hs X f p pos;obtain⟨o1,o2,o3⟩:=jY ho;unfold trC at h;split at h
   ·rename_i i ei;obtain⟨as,ea,rfl⟩:=wA.mp h;have sA:=iA _ _ _ ea hs X f;cases args with
    |nil=>
     have:as=.nil:=by
      cases n with
      |zero=>simp only[trA]at ea;cases ea
      |succ m=>simp only[trA]at ea;cases ea;rfl
     subst this;exact qAR (f.fns i g (zC ei)) (f.gl' hg) o1
    |cons e es=>
     simp only[List.all_cons,wC]at hs;exact T9 (f.fns i g (zC ei)) (f.gl' hg) o1 hs.1 hs.2 sA
   ·split at h
    ·rename_i hb;split at h
     ·rename_i hi;subst hi;split at h
      ·rename_i e0 es0 x1 tp;split at h
       ·rename_i ks ek;split at h
        ·rename_i hl;obtain⟨a',ea,rfl⟩:=wA.mp h;simp only[List.all_cons,wC]at hs;obtain⟨p1,Ds,p2⟩:=j4 f ek;exact qCr f.xs (f.gl' hg) (f.blt _ hb) p1 p2 (by rw[<-Paired.length p2];exact wG hl (by decide)) hs.1 (iE _ _ _ ea X f).1
        ·cases h
       ·cases h
      ·rename_i e0 t pt;split at h
       ·rename_i hcl;obtain⟨a',ea,rfl⟩:=wA.mp h;simp only[List.all_cons,wC]at hs;obtain⟨cv,c1,c2⟩:=qCz f (pc:=pt) hcl;exact qBj (te:=_L.tC cv) f.xs c1 (f.gl' hg) (f.blt _ hb) c2 hs.1 (iE _ _ _ ea X f).1
       split at h
       ·rename_i hc;simp only[wC]at hc;obtain⟨t1,t2,t3⟩:=jY hc.1.1;split at h
        ·rename_i a' t' ea et;cases h;obtain⟨b1,b2⟩:=qBe et;simp only[List.all_cons,wC]at hs;exact qER b2 (f.gl' hg) (f.blt _ hb) (f.gl' hc.1.2) (f.blt _ hc.2) b1 t3 t1 hs.1 (iE _ _ _ ea X f).1
        ·cases h
       ·cases h
      ·cases h
     ·split at h
      ·rename_i hl;obtain⟨rfl,_⟩:=hl;split at h
       ·rename_i r pr e0 pc;split at h
        ·rename_i hc;simp only[wC,uH]at hc;obtain⟨⟨⟨⟨c1,c2⟩,c3⟩,c4⟩,rfl⟩:=hc;obtain⟨a',ea,rfl⟩:=wA.mp h;exact qBb f.calm (f.gl' hg) (f.blt _ hb) (f.gl' c2) (f.blt _ c3) c4 (iE _ _ _ ea X f).1
        ·cases h
       ·cases h
      rename_i hneg;clear hneg;split at h
      ·rename_i b e es eb;obtain⟨as,ea,rfl⟩:=wA.mp h;have sA:=iA _ _ _ ea hs X f;simp only[List.all_cons,wC]at hs;exact qDw f.calm f.hu f.gd (f.gl' hg) (f.blt _ hb) (qEV eb) hs.1 hs.2 sA o3 o1
      ·cases h
    ·cases h
  ·intro Γ o as h X f;cases o with
   |none=>simp only[trO]at h;cases h;exact qCi
   |some e=>
    simp only[trO]at h;obtain⟨a,ea,rfl⟩:=wA.mp h;exact qBu (iE _ _ _ ea X f).1
  ·intro Γ ifs as h X f;cases ifs with
   |nil=>simp only[qDB]at h;cases h;exact qDr
   |cons e r=>
    cases r with
    |nil=>
     simp only[qDB]at h;obtain⟨a,ea,rfl⟩:=wA.mp h;exact qEc (iE _ _ _ ea X f).2
    |cons b r=>simp only[qDB]at h;cases h
  ·intro Γ tg iter it h X f;unfold trI at h;split at h
   ·rename_i fn p args pos;split at h
    ·rename_i hf;subst hf;split at h
     ·rename_i hc;simp only[wC]at hc;split at h
      ·rename_i e;obtain⟨a,ea,rfl⟩:=wA.mp h;have hs:=hc.2;simp only[List.all_cons,wC]at hs;exact qBl (f.gl' hc.1.1) (f.blt _ hc.1.2) hs.1 (iE _ _ _ ea X f).1
      ·cases h
     ·cases h
    ·split at h
     ·rename_i hf;subst hf;split at h
      ·rename_i hc;simp only[wC]at hc;split at h
       ·split at h
        ·rename_i a' b' ea eb;cases h;have hs:=hc.2;simp only[List.all_cons,wC]at hs;exact qDW (f.gl' hc.1.1) (f.blt _ hc.1.2) hs.1 hs.2.1 (iE _ _ _ ea X f).1 (iE _ _ _ eb X f).1
        ·cases h
       ·cases h
      ·cases h
     ·split at h
      ·rename_i hf;subst hf;split at h
       ·rename_i hc;simp only[wC]at hc;split at h
        ·obtain⟨a,ea,rfl⟩:=wA.mp h;have hs:=hc.2;simp only[List.all_cons,wC]at hs;exact qCD (f.gl' hc.1.1) (f.blt _ hc.1.2) hs.1 (iE _ _ _ ea X f).1
        ·cases h
       ·cases h
      ·split at h
       ·rename_i hf;subst hf;split at h
        ·rename_i hc;simp only[wC]at hc;split at h
         ·obtain⟨a,ea,rfl⟩:=wA.mp h;have hs:=hc.2;simp only[List.all_cons,wC]at hs;exact qCa (f.gl' hc.1.1) (f.blt _ hc.1.2) hs.1 (iE _ _ _ ea X f).1
         ·cases h
        ·cases h
       ·obtain⟨a,ea,rfl⟩:=wA.mp h;exact W2 (iE _ _ _ ea X f).1
   ·obtain⟨a,ea,rfl⟩:=wA.mp h;exact W2 (iE _ _ _ ea X f).1
end
open _L (FnOk Fun zS Binds Room)
noncomputable def CA(mg:Str->Option Value)(cn:List Str)(c:Nat):Option Addr:=match cn[c]? with
 |some x=>(match mg x with|some (.ref C)=>some C|_=>none)
 |none=>none
theorem S0{mg:Str->Option Value}{cn:List Str}{c:Nat}{C:Addr}(h:CA mg cn c=some C):∃x,cn[c]?=some x/\mg x=some (.ref C):=by
 unfold CA at h;split at h
 ·rename_i x ex;split at h
  ·rename_i C' em;cases h;exact⟨x,ex,em⟩
  ·cases h
 ·cases h
noncomputable def spX(mg:Str->Option Value)(cn:List Str)(G:List Addr)(F:Nat->List V->AH->RV)(K:PySem.W.Frag)(f:Nat):_L.Sp:=λvs H _ E=>∃φ h ws c C h',Rl K G φ h H/\rvs φ ws vs/\F f ws h=.exc c h'/\CA mg cn c=some C/\∀φ' H',Ext φ φ'->Rl K G φ' h' H'->E (.ref C) none H'
structure FnX(X:Cx)(G:List Addr)(F:Nat->List V->AH->RV)(cn:List Str)(f:Nat)(x:Str):Prop where
 ex:∃k fa fd ps,FnOk X.prog X.w X.K X.mg X.base (CX1 X.prog X.w) k fa fd ps (spX X.mg cn G F X.K f)/\Room k X.A/\X.mg x=some (.ref fa)/\PySem.W.keepIn X.K (.ref fa)=true/\Binds X.K fd ps []
structure FitX(Γ:Gam)(X:Cx)(G:List Addr)(F:Nat->List V->AH->RV):Prop where
 stk:X.stack=X.env::X.outer
 fra:X.env.frame=some X.env.locals
 exn:X.ex=[]
 fnx:∀(f:Nat) x,Γ.fns[f]?=some x->FnX X G F Γ.cls f x
 cl:∀(c:Nat) x,Γ.cls[c]?=some x->∃C,X.mg x=some (.ref C)/\l8 X.K C
 sb:∀c k C D,CA X.mg Γ.cls c=some C->CA X.mg Γ.cls k=some D->PySem.W.kitOne X.K (.ref C) (.ref D)=some (qC6 c k)
 sv:∀c C,CA X.mg Γ.cls c=some C->PySem.W.kitOne X.K (.ref C) (.type "ValueError")=some true
 ro:∀c C D,CA X.mg Γ.cls c=some C->CA X.mg Γ.cls 0=some D->PySem.W.exmOne X.K (.ref C) (.ref D)=some true
section
variable{Γ:Gam}{X:Cx}{G:List Addr}{F:Nat->List V->AH->RV}
theorem Fit.wish(f:Fit Γ X G F)(E:Value->Shared->Prop):Fit Γ (X.wish E) G F:=⟨f.hN,f.nd,f.sc,f.calm,f.fn,λg x e=>⟨(f.fns g x e).ex⟩,f.gls,f.blt,f.hu,f.gd,f.gtu,f.xs⟩
theorem FitX.wish(f:FitX Γ X G F)(E:Value->Shared->Prop):FitX Γ (X.wish E) G F:=⟨f.stk,f.fra,f.exn,λg x e=>⟨(f.fnx g x e).ex⟩,f.cl,f.sb,f.sv,f.ro⟩
def Thr(X:Cx)(pins:List (Addr×Obj))(Sg:_L.St->Prop)(Ex:XK)(mk:Bool)(e:Value)(s':Shared):Prop:=
 (∃σ1 s1 H1,Sg σ1/\Inv X pins σ1 H1 s1/\CX1 X.prog X.w X.stack H1 s1 Ex e s')\/
 (mk=true/\∃σ1 s2 H1 h1 ea vs C,Inv X pins σ1 H1 s2/\Heap.MadeExcOf s2.heap h1 ea (.ref C) vs/\e=.ref ea/\s'={ s2 with heap:=h1 }/\Ex (.ref C) none H1)
theorem Thr.mono{pins:List (Addr×Obj)}{Sg Sg':_L.St->Prop}{Ex:XK}{mk mk':Bool}{e:Value}{s':Shared}(t:Thr X pins Sg Ex mk e s')(h1:∀σ,Sg σ->Sg' σ)(h2:mk=true->mk'=true):Thr X pins Sg' Ex mk' e s':=by
 rcases t with⟨σ1,s1,H1,a,b,c⟩|⟨a,b⟩
 ·exact .inl ⟨σ1,s1,H1,h1 _ a,b,c⟩
 ·exact .inr ⟨h2 a,b⟩
def tX(X:Cx)(G:List Addr)(cn:List Str)(r:St->AH->RS)(σc:_L.St)(H:Hp)(Ex:XK):Prop:=∃φ h σ c C h',Rl X.K G φ h H/\rst φ σ σc/\r σ h=.exc c h'/\CA X.mg cn c=some C/\∀φ' H',Ext φ φ'->Rl X.K G φ' h' H'->Ex (.ref C) none H'
variable (X G F) in
def SX(cn:List Str)(st:Stmt)(s:S):Prop:=∀(pins:List (Addr×Obj)) (s0:Shared) (σc:_L.St) (H:Hp) (Ex:XK),Inv X pins σc H s0->tX X G cn (ex F s) σc H Ex->wpAny (model X.prog X.w) X.A (exec st X.env) (λ_ _=>False) (Thr X pins (λσ1=>s.sole=true->σ1=σc) Ex (!s.sole)) s0
variable (X G F) in
def SXs(cn:List Str)(st:List Stmt)(s:Ss):Prop:=∀(pins:List (Addr×Obj)) (s0:Shared) (σc:_L.St) (H:Hp) (Ex:XK),Inv X pins σc H s0->tX X G cn (exs F s) σc H Ex->wpAny (model X.prog X.w) X.A (execs st X.env) (λ_ _=>False) (Thr X pins (λσ1=>s.sole=true->σ1=σc) Ex (!s.sole)) s0
theorem zx{cn:List Str}{st:Stmt}{s:S}(h:s.calm=true):SX X G F cn st s:=by
 intro pins s0 σc H Ex I q;obtain⟨φ,h0,σ,c,C,h',R,rs,e,_⟩:=q;exact absurd e (qEt F s h σ h0 c h')
theorem qFa{pins:List (Addr×Obj)}{σ:_L.St}{H:Hp}{s:Shared}{Ex:XK}{us:List Value}{vs:List V}{k:Nat}{fa:Addr}{fd:FuncData}{ps:List Str}{sp:_L.Sp}(Fo:FnOk X.prog X.w X.K X.mg X.base (CX1 X.prog X.w) k fa fd ps sp)(hr:Room k X.A)(hb:Binds X.K fd ps [])
  (I:Inv X pins σ H s) (r:Vals vs us) (h:sp vs H (λ_ _=>False) Ex):wpAny (model X.prog X.w) X.A (call (.ref fa) us) (λ_ _=>False) (λe s'=>CX1 X.prog X.w X.stack H s Ex e s') s:=by
 have hl:(us++[]).length=ps.length:=by rw[wO,<-r.length];exact Fo.len _ _ _ _ h
 have hb2:=hb s us I.kIn hl;rw[wO]at hb2;refine wpAny_call (codeAny_mono (Fo.run X.A X.stack s H ⟨us,[]⟩ us vs _ Ex hr I.env0 hb2 r h) λres s' hq=>?_);cases res with
 |error e=>exact hq
 |ok fl=>
  cases fl with
  |ret u=>obtain⟨v,H2,_,_,_,_,_,z⟩:=hq;exact z.elim
  |next=>exact False.elim hq
  |brk=>exact False.elim hq
  |cont=>exact False.elim hq
theorem Res.bind_exc{α β:Type}{r:Res α}{f:α->Res β}{c:Nat}{h:AH}(e:r.bind f=.exc c h)(n:NX r):∃a,r=.ok a/\f a=.exc c h:=by
 cases r with
 |ok a=>exact⟨a,rfl,e⟩
 |exc c' h'=>exact absurd rfl (n c' h')
 |stuck=>cases e
theorem T5{Γ:Gam}{e:Expr}{p:Nat×Es}(h:xOf Γ e=some p):∃g gp a r cpos,e=.Call (.Name g gp) (a::r) [] cpos/\okN g=true/\glB Γ.sc g=true/\(a::r).all qK=true/\slot Γ.fns g=some p.1/\trA 60 Γ (a::r)=some p.2:=by
 unfold xOf at h;split at h
 ·split at h
  ·split at h
   ·rename_i hcc;simp only[wC]at hcc;split at h
    ·rename_i ei ea;cases h;exact⟨_,_,_,_,_,rfl,hcc.1.1,hcc.1.2,hcc.2,ei,ea⟩
    ·cases h
   ·cases h
  ·cases h
 ·cases h
theorem qIM(f:Fit Γ X G F)(fx:FitX Γ X G F){e:Expr}{i:Nat}{as:Es}(h:xOf Γ e=some (i,as)){pins:List (Addr×Obj)}{s0:Shared}{σc:_L.St}{H:Hp}{Ex:XK}{so:Bool}(I:_L.Inv X pins σc H s0){φ:List Addr}{h0 h01 h':AH}{σ:St}{xs:List V}{c:Nat}{C:Addr}(R:Rl X.K G φ h0 H)(rs:rst φ σ σc)(e1:evs F as σ h0=.ok (xs,h01))(e2:F i xs h01=.exc c h')(ca:CA X.mg Γ.cls c=some C)(kk:∀φ' H',Ext φ φ'->Rl X.K G φ' h' H'->Ex (Value.ref C) none H'):wpAny (model X.prog X.w) X.A (eval e X.env) (λ_ _=>False) (Thr X pins (λσ1=>so=true->σ1=σc) Ex (!so)) s0:=by
 obtain⟨g,gp,a,r,cpos,rfl,o1,o2,o3,ei,ea⟩:=T5 h;obtain⟨d1,d2,d3⟩:=jY o1;obtain⟨k,fa,fd,ps,h1,h2,h3,h4,h5⟩:=(fx.fnx i g (zC ei)).ex;have hs:=o3;simp only[List.all_cons,wC]at hs;have sA:SA (X.wish (Thr X pins (λσ1=>so=true->σ1=σc) Ex (!so))) G F (a::r) as:=(Qf (G:=G) (F:=F) 60).2.1 Γ _ _ ea o3 _ (f.wish _);refine wpAny_Call_Name_kw (_L.ld_glob I (f.gl' o2) h3 ?_ d1);refine PySem.W.callWith_K (h₀:=X.base) I.ok.mod.kin h4 (_L.thn (sA cpos pins s0 σc H (λvs H1=>spX X.mg Γ.cls G F X.K i vs H1 (λ_ _=>False) Ex) (I.wish _) ⟨φ,h0,σ,xs,h01,R,rs,e1,λφ1 H1 ws x1 R1 r1=>⟨φ1,h01,xs,c,C,h',R1,r1,e2,ca,λφ2 H2 x2 R2=>kk φ2 H2 (x1.trans x2) R2⟩⟩) λus s1 ⟨vs,H1,I1,r1,q1⟩=>⟨I1.kIn,?_⟩) (qE hs.1) (zh hs.2);exact wpAny_mono (qFa (X:=X) h1 h2 h5 I1.unwish r1 q1) (λ_ _ z=>z.elim) λe s' z=>.inl ⟨σc,s1,H1,λ_=>rfl,I1.unwish,z⟩
theorem n8(f:Fit Γ X G F)(fx:FitX Γ X G F){e:Expr}{i:Nat}{as:Es}{pos:Pos}(h:xOf Γ e=some (i,as))(hc:jo e=true):SX X G F Γ.cls (.Expr e pos) (.xexpr i as):=by
 intro pins s0 σc H Ex I q;obtain⟨φ,h0,σ,c,C,h',R,rs,e,ca,kk⟩:=q;unfold ex at e;obtain⟨⟨xs,h01⟩,e1,e⟩:=Res.bind_exc e (ju F as σ h0);have e2:F i xs h01=.exc c h':=by
  dsimp only at e;revert e;generalize F i xs h01=rr;intro e;cases rr with
  |ok p=>cases e
  |exc c2 h2=>cases e;rfl
  |stuck=>cases e
 exact wpAny_Expr_any (qIM f fx h I R rs e1 e2 ca kk) I.quiet (jl hc)
theorem p7(f:Fit Γ X G F)(fx:FitX Γ X G F){ex ca:Option Expr}{c:Nat}{pos:Pos}(h:rOf Γ ex ca=some c):SX X G F Γ.cls (.Raise ex ca pos) (.raise c):=by
 intro pins s0 σc H Ex I q;unfold rOf at h;split at h
 ·split at h
  ·rename_i fn args kws cpos;split at h
   ·rename_i x np v j p;split at h
    ·rename_i hcc;rw[wC]at hcc;obtain⟨d1,d2,d3⟩:=jY hcc.1;obtain⟨C,hm,hC⟩:=fx.cl c x (zC h);obtain⟨φ,h0,σ,c',C',h',R,rs,e,cc,kk⟩:=q;unfold _P.ex at e;cases e;have e2:C'=C:=by
      obtain⟨x',ex',em'⟩:=S0 cc;rw[zC h]at ex';cases ex';rw[hm]at em';cases em';rfl
     subst e2;refine z9 (X:=X.wish (Thr X pins (λσ1=>(S.raise c).sole=true->σ1=σc) Ex (!(S.raise c).sole))) (f.gl' hcc.2) hm d1 f.calm hC (I.wish _) λs2 h1 ea vs I2 mk=>?_;exact .inr ⟨rfl,σc,s2,H,h1,ea,vs,_,I2.unwish,mk,rfl,rfl,kk φ H (.refl _) R⟩
    ·cases h
   ·cases h
  ·cases h
 ·cases h
end
section
variable{Γ:Gam}{X:Cx}{G:List Addr}{F:Nat->List V->AH->RV}{cn:List Str}
theorem qDN{ec:Expr}{c:E}{t u:List Stmt}{st su:Ss}{pos:Pos}(hc:∀E,ST (X.wish E) G F ec c)(ht:SXs X G F cn t st)(hu:SXs X G F cn u su):SX X G F cn (.If ec t u pos) (.ifs c st su):=by
 intro pins s0 σc H Ex I q;obtain⟨φ,h,σ,cc,C,h',R,rs,e,ca,k⟩:=q;unfold ex at e;obtain⟨⟨b,h1⟩,e1,e⟩:=Res.bind_exc e (QW (qZ F c σ h));have sl:(S.ifs c st su).sole=(st.sole&&su.sole):=by rw[S.sole]
 refine wpAny_If (_L.thn (hc (Thr X pins (λσ1=>(S.ifs c st su).sole=true->σ1=σc) Ex (!(S.ifs c st su).sole)) pins s0 σc H (λd H1=>d=b/\tX X G cn (exs F (if b then st else su)) σc H1 Ex) (I.wish _) ⟨φ,h,σ,b,h1,R,rs,e1,λφ1 H1 x1 R1=>⟨rfl,φ1,h1,σ,cc,C,h',R1,rst.mono x1 rs,?_,ca,λφ2 H2 x2 R2=>k φ2 H2 (x1.trans x2) R2⟩⟩) λd s1 ⟨H1,I1,ed,q1⟩=>?_)
 ·dsimp only at e;cases b with
  |true=>rw[if_pos rfl]at e ⊢;exact e
  |false=>rw[if_neg (by decide)]at e ⊢;exact e
 ·subst ed;cases d with
  |true=>
   rw[if_pos rfl]at q1;refine wpAny_mono (ht pins s1 σc H1 Ex I1.unwish q1) (λ_ _ z=>z.elim) λe s' z=>z.mono (λσ1 w y=>w (by rw[sl,wC]at y;exact y.1)) λy=>?_;rw[sl];simp at y ⊢;exact .inl y
  |false=>
   rw[if_neg (by decide)]at q1;refine wpAny_mono (hu pins s1 σc H1 Ex I1.unwish q1) (λ_ _ z=>z.elim) λe s' z=>z.mono (λσ1 w y=>w (by rw[sl,wC]at y;exact y.2)) λy=>?_;rw[sl];simp at y ⊢;exact .inr y
theorem qBq:SXs X G F cn [] .nil:=by
 intro pins s0 σc H Ex I q;obtain⟨φ,h,σ,cc,C,h',R,rs,e,ca,k⟩:=q;unfold exs at e;cases e
theorem qAD{st:Stmt}{sts:List Stmt}{s:S}{r:Ss}(h0:SS X.nox G F st s)(h1:SX X G F cn st s)(h2:SXs X G F cn sts r):SXs X G F cn (st::sts) (.cons s r):=by
 intro pins s0 σc H Ex I q;obtain⟨φ,h,σ,cc,C,h',R,rs,e,ca,k⟩:=q;unfold exs at e;cases er:ex F s σ h with
 |stuck=>rw[er]at e;cases e
 |exc c2 h2'=>
  rw[er]at e;cases e;refine wpAny_execs_cons (wpAny_mono (h1 pins s0 σc H Ex I ⟨φ,h,σ,cc,C,h',R,rs,er,ca,k⟩) (λ_ _ z=>z.elim) λe s' z=>z.mono (λσ1 w y=>w (by rw[Ss.sole,wC]at y;exact y.1)) λy=>?_);rw[Ss.sole];simp at y ⊢;exact .inl y
 |ok p=>
  obtain⟨o,h1'⟩:=p;rw[er,tF]at e;cases o with
  |nx σ1=>
   have e:exs F r σ1 h1'=.exc cc h':=e;have hr:(Ss.cons s r).sole=false:=by
    cases r with
    |nil=>unfold exs at e;cases e
    |cons a b=>rw[Ss.sole];simp[Ss.isNil]
   refine wpAny_execs_cons (wpAny_mono (h0 pins s0 σc H { nx:=λσ2 H2=>tX X G cn (exs F r) σ2 H2 Ex,rt:=λ_ _=>False } (I.wish _) ⟨φ,h,σ,.nx σ1,h1',R,rs,er,λφ1 H1 x1 R1 σc1 rs1=>⟨φ1,h1',σ1,cc,C,h',R1,rs1,e,ca,λφ2 H2 x2 R2=>k φ2 H2 (x1.trans x2) R2⟩⟩) (λf s1 z=>?_) λ_ _ z=>False.elim z);cases f with
   |next=>
    obtain⟨σ2,H2,I2,q2⟩:=z;exact wpAny_mono (h2 pins s1 σ2 H2 Ex I2.unwish q2) (λ_ _ z=>z.elim) λe s' z=>z.mono (λσ1 w y=>by rw[hr]at y;cases y) λy=>by rw[hr];rfl
   |ret v=>obtain⟨_,_,_,_,_,z⟩:=z;exact z.elim
   |brk=>obtain⟨_,_,_,z⟩:=z;exact z.elim
   |cont=>obtain⟨_,_,_,z⟩:=z;exact z.elim
  |rt v=>cases e
  |bk σ1=>cases e
  |ct σ1=>cases e
theorem qE5{hs:List ExceptHandler}{e i:Nat}(h:hE Γ hs=some (e,i)):∃x xp n y yp np ap hpos,hs=[.ExceptHandler (some (.Name x xp)) (some n) [.Assign [.Name y yp] (.Name n np) ap] hpos]/\okN x=true/\glB Γ.sc x=true/\okN n=true/\slot Γ.cls x=some 0/\Γ.sc.names.lookup n=some .local/\Zl Γ y=true/\n≠y/\slot Γ.N n=some e/\slot Γ.N y=some i:=by
 unfold hE at h;split at h
 ·rename_i ty nm body hpos;split at h
  ·rename_i x xp n ts v ap;split at h
   ·rename_i y yp m np;split at h
    ·rename_i hcc;simp only[wC,vg,beq_iff_eq,beq_eq_false_iff_ne]at hcc;obtain⟨⟨⟨⟨⟨⟨⟨c1,c2⟩,c3⟩,c4⟩,c5⟩,c6⟩,c7⟩,c8⟩:=hcc;split at h
     ·rename_i e' i' ei ey;cases h;subst c8;exact⟨x,xp,m,y,yp,np,ap,hpos,rfl,c1,c2,c3,c4,c5,c6,c7,ei,ey⟩
     ·cases h
    ·cases h
   ·cases h
  ·cases h
 ·cases h
theorem qBX(f:Fit Γ X G F)(fx:FitX Γ X G F)(hx:X.xe=λ_ _=>False){st:Stmt}{hs:List ExceptHandler}{b:S}{e i:Nat}{pos:Pos}(hh:hE Γ hs=some (e,i))(h0:SS X G F st b)(h1:SX X G F Γ.cls st b)(sole:b.sole=true):
  SS X G F (.Try [st] hs [] [] pos) (.tryE b e i Γ.cls):=by
 intro pins s0 σc H D I q;obtain⟨φ,h,σ,o,h',R,rs,ee,kk⟩:=q;unfold ex at ee;obtain⟨x,xp,n,y,yp,np,ap,hpos,rfl,c1,c2,c3,c4,c5,c6,c7,ei,ey⟩:=qE5 hh;refine wpAny_Try_except ?_
 try dsimp only at ee
 cases er:ex F b σ h with
 |stuck=>rw[er]at ee;cases ee
 |ok p=>
  rw[er]at ee;cases ee;refine wpAny_execs_cons (wpAny_mono (h0 pins s0 σc H D I ⟨φ,h,σ,o,h',R,rs,er,kk⟩) (λfl s1 z=>?_) λ_ _ z=>by rw[hx]at z;exact z.elim);cases fl with
  |next=>exact wpAny_execs_nil (wpAny_execs_nil z)
  |ret v=>exact z
  |brk=>exact z
  |cont=>exact z
 |exc c h1'=>
  rw[er]at ee
  try dsimp only at ee
  split at ee
  ·rename_i xc exc;cases ee;obtain⟨C,hmC,hC⟩:=fx.cl c xc exc;have ca:CA X.mg Γ.cls c=some C:=by unfold CA;rw[exc];dsimp only;rw[hmC]
   obtain⟨D0,hm0,hD0⟩:=fx.cl 0 x (zC c4);have ca0:CA X.mg Γ.cls 0=some D0:=by unfold CA;rw[zC c4];dsimp only;rw[hm0]
   obtain⟨C',m1,m2,_⟩:=f.xs.nn xc (wR exc);rw[hmC]at m1;cases m1;refine wpAny_execs_cons (wpAny_mono (h1 pins s0 σc H (λv _ H1=>v=.ref C/\∃φ1,Ext φ φ1/\Rl X.K G φ1 h1' H1) I ⟨φ,h,σ,c,C,h1',R,rs,er,ca,λφ1 H1 x1 R1=>⟨rfl,φ1,x1,R1⟩⟩) (λ_ _ z=>z.elim) λev s' t=>?_);rcases t with⟨σ1,s1,H1,sg,I1,ea,C2,H2,rfl,Fy,e2,φ1,x1,R1⟩|⟨z,_⟩
   case inr=>rw[sole]at z;cases z
   cases sg sole;cases e2;have nd:X.N.Nodup:=by rw[f.hN];exact f.nd
   have hie:X.N[e]?=some n:=by rw[f.hN];exact zC ei
   have hiy:X.N[i]?=some y:=by rw[f.hN];exact zC ey
   have hloc:X.env.scope.names.lookup n=some .local:=by rw[f.sc];exact c5
   obtain⟨sy,sy2⟩:=f.store c6;have nei:e≠i:=by
    intro z;subst z;rw[hie]at hiy;cases hiy;exact c7 rfl
   obtain⟨d1,d2,d3⟩:=jY c3;have hle:e<σc.length:=by rw[I1.len];exact(wB.mp hie).1
   refine qD0 I1 fx.stk fx.fra fx.exn nd hie hloc (f.gl' c2) hm0 (jY c1).1 (fx.ro c C D0 ca ca0) Fy (R7:=λσ7 H7=>H7=H2/\σ7=((σc.set e (some (.ref ea))).set i (some (.ref ea))).set e none) (λoe s6 hcl I6=>?_) λσ7 H7 s8 oe hcl n0 g1 g2 g3 g4 g5 I8 r=>?_
   ·have pv:=_L.pe_var (X:=XE X ea oe λ_ _=>False) (pos:=np) hie (.inl hloc) d1 d2;refine wpAny_mono (_L.pss_one (_L.ps_set (X:=XE X ea oe λ_ _=>False) nd hiy sy pv rfl sy2) pins s6 _ H2 { nx:=λσ7 H7=>H7=H2/\σ7.set e none=((σc.set e (some (.ref ea))).set i (some (.ref ea))).set e none,rt:=λ_ _=>False } I6 ⟨_,by rw[wn hle],rfl,rfl⟩) (λfl s7 z=>?_) λ_ _ z=>z;cases fl with
    |next=>obtain⟨σ7,H7,I7,q7⟩:=z;exact⟨rfl,σ7,H7,I7,q7⟩
    |ret v=>obtain⟨_,_,_,_,_,z⟩:=z;exact z.elim
    |brk=>obtain⟨_,_,_,z⟩:=z;exact z.elim
    |cont=>obtain⟨_,_,_,z⟩:=z;exact z.elim
   ·obtain⟨rfl,rfl⟩:=r;refine⟨_,_L.upd H7 ea (.ext (exP ea C)),qBr I8 (λ_=>n0) g1 g2 g3 g4 g5 ⟨⟨oe,g1,hcl⟩,⟨oe,g1⟩,λh1 h2 ⟨o,q1,q2⟩ k=>⟨o,k _ q1,q2⟩⟩,?_⟩;refine kk (φ1++[ea]) _ (x1.trans ⟨[ea],rfl⟩) (R1.new g2 (o:=.ob (.exn xc)) ⟨C,m2,_L.upd_same⟩) _ ?_;have e3:((σc.set e (some (V.ref ea))).set i (some (V.ref ea))).set e none=(σc.set i (some (V.ref ea))).set e none:=by
     rw[List.set_comm _ _ nei.symm,List.set_set,List.set_comm _ _ nei]
    rw[e3];exact qz (R:=ropt (φ1++[ea])) (x:=none) (u:=none) trivial e (qz (R:=ropt (φ1++[ea])) (x:=some (.ref h1'.length)) (u:=some (.ref ea)) ⟨_,rfl,R1.lastRef⟩ i (rst.mono (x1.trans ⟨[ea],rfl⟩) rs))
  ·cases ee
end
section
variable{G:List Addr}{F:Nat->List V->AH->RV}
theorem JM{Γ:Gam}{X:Cx}(f:Fit Γ X G F)(hx:∀x,Γ.own x=true){n:Nat}{elt:Expr}{gens:List Comprehension}{scope:Scope}{cpos p pos:Pos}{a:E}{x:Str}{g:Tg}(hd:qHG a=true)(h:trE n Γ (.ListComp elt gens scope cpos)=some a)
  (hg:trT Γ (.Name x ⟨0,0,0,0⟩)=some g):SS X G F (.Assign [.Name x p] (.ListComp elt gens scope cpos) pos) (.asg g a):=by
 cases n with
 |zero=>unfold trE at h;cases h
 |succ n=>
  unfold trT at hg;dsimp only at hg;split at hg
  ·rename_i hs;obtain⟨i,ei,rfl⟩:=wA.mp hg;obtain⟨h1,h2⟩:=f.store hs;obtain⟨iE,iA,iB,iC,iO,iIf,iI⟩:=Qf (G:=G) (F:=F) n;unfold trE at h;dsimp only at h;split at h
   ·split at h;split at h
    ·split at h
     ·rename_i hc;simp only[wC]at hc;split at h
      ·rename_i it g c e' ei' eg ec ee;cases h;exact qCI f.calm (iI _ _ _ _ ei' X f) (QL f hc.1) (λC fp s H=>z8 (jN f hc.1 C fp s H) eg) (λC fp s H=>iIf _ _ _ ec _ (jN f hc.1 C fp s H)) (λC fp s H=>(iE _ _ _ ee _ (jN f hc.1 C fp s H)).1) (W6 hc.2) (by rw[f.hN];exact f.nd) (by rw[f.hN];exact zC ei) h1 h2
      ·cases h
     ·cases h
    ·cases h
   ·cases h
  ·cases hg
theorem v0{Γ:Gam}{X:Cx}(f:Fit Γ X G F){e:Expr}{p:Nat×Es}{pos:Pos}(h:xOf Γ e=some p)(hc:jo e=true):SS X G F (.Expr e pos) (.xexpr p.1 p.2):=by
 have h0:=h;obtain⟨i',as'⟩:=p;obtain⟨g,gp,a,r,cpos,rfl,o1,o2,o3,ei,ea⟩:=T5 h;have hs:=o3;simp only[List.all_cons,wC]at hs;have s1:=T9 (pos:=cpos) (p:=gp) (f.fns i' g (zC ei)) (f.gl' o2) (jY o1).1 hs.1 hs.2 ((Qf (G:=G) (F:=F) 60).2.1 Γ _ _ ea o3 X f);refine Qt (Z7 (pos:=pos) s1 hc) λD σc H q=>?_;obtain⟨φ,h,σ,o,h',R,rs,e,k⟩:=q;refine⟨φ,h,σ,o,h',R,rs,?_,k⟩;unfold ex at e ⊢;obtain⟨⟨xs,h1⟩,e1,e⟩:=tK e;obtain⟨⟨v,h2⟩,e2,e⟩:=tK e;unfold ev;rw[e1,tF];dsimp only at e2 e ⊢;rw[e2];exact e
theorem P5{s:S}(h:s.clean=true)(h1:∀f as,s≠.xexpr f as)(h2:∀c,s≠.raise c)(h3:∀c t u,s≠.ifs c t u):s.calm=true:=by
 cases s<;>first|(exact absurd rfl (h1 _ _))|(exact absurd rfl (h2 _))|(exact absurd rfl (h3 _ _ _))|(rw[S.clean]at h<;>first|exact h|(intros;contradiction))
noncomputable def S.fx:S->Bool
 | .xexpr _ _=>false
 | .raise _=>false
 | .ifs _ _ _=>false
 |_=>true
noncomputable def qBp:Stmt->Bool
 | .Expr _ _=>true
 | .Raise _ _ _=>true
 | .If _ _ _ _=>true
 | .Return (some _) _=>true
 |_=>false
theorem P9{st:Stmt}(h:qBp st=true):(∃e p,st=.Expr e p)\/(∃a b p,st=.Raise a b p)\/(∃c t u p,st=.If c t u p)\/(∃e p,st=.Return (some e) p):=by
 cases st with
 |Expr e q=>exact .inl ⟨_,_,rfl⟩
 |Raise a b q=>exact .inr (.inl ⟨_,_,_,rfl⟩)
 |If c t u q=>exact .inr (.inr (.inl ⟨_,_,_,_,rfl⟩))
 |Return r q=>cases r with
  |some e=>exact .inr (.inr (.inr ⟨_,_,rfl⟩))
  |none=>cases h
 |_=>cases h
theorem qGX(n:Nat)(Γ:Gam)(st:Stmt)(h:qBp st=false):(trS (n+1) Γ st).fx=true:=by
 unfold trS;split
 ·(repeat' split)<;>rfl
 ·cases h
 ·cases h
 ·(repeat' split)<;>rfl
 ·(repeat' split)<;>first|rfl|cases h
 ·cases h
 all_goals ((repeat' split)<;>rfl)
theorem Jk(n:Nat):(∀ Γ st (X:Cx),Fit Γ X G F->FitX Γ X G F->(∀x,Γ.own x=true)->X.xe=(λ_ _=>False)->SS X G F st (trS n Γ st))/\(∀ Γ sts (X:Cx),Fit Γ X G F->FitX Γ X G F->(∀x,Γ.own x=true)->X.xe=(λ_ _=>False)->SSs X G F sts (Qp n Γ sts))/\
  (∀ Γ st (X:Cx),Fit Γ X G F->FitX Γ X G F->(∀x,Γ.own x=true)->(trS n Γ st).clean=true->SX X G F Γ.cls st (trS n Γ st))/\(∀ Γ sts (X:Cx),Fit Γ X G F->FitX Γ X G F->(∀x,Γ.own x=true)->(Qp n Γ sts).clean=true->SXs X G F Γ.cls sts (Qp n Γ sts)):=by
 induction n with
 |zero=>
  refine⟨fun Γ st X f fx ho hx=>?_,fun Γ sts X f fx ho hx=>?_,fun Γ st X f fx ho hc=>?_,fun Γ sts X f fx ho hc=>?_⟩
  ·unfold trS;exact qV
  ·unfold Qp;intro pins s σ H D I q;obtain⟨φ,h,σa,o,h',R,rs,e,k⟩:=q;unfold exs ex at e;cases e
  ·unfold trS;exact zx rfl
  ·unfold Qp;intro pins s0 σc H Ex I q;obtain⟨φ,h,σ,cc,C,h',R,rs,e,ca,k⟩:=q;unfold exs ex at e;cases e
 |succ n ih=>
  obtain⟨i1,i2,i3,i4⟩:=ih;obtain⟨iE,iA,iB,iC,iO,iIf,iI⟩:=Qf (G:=G) (F:=F) 60;refine⟨fun Γ st X f fx ho hx=>?_,fun Γ sts X f fx ho hx=>?_,fun Γ st X f fx ho hc=>?_,fun Γ sts X f fx ho hc=>?_⟩
  ·unfold trS;split
   ·split
    ·split
     ·rename_i v pos _ _ x p;split
      ·rename_i g a eg ea;split
       ·rename_i hd;by_cases hc:jo v=true
        ·refine Qt (_L.ps_asg (iE _ _ _ ea X f).1 (z8 f (tg:=.Name x p) eg) (QK hc) (by cases v<;>rfl) rfl) λ_ _ _=>U2
        ·cases v with
         |ListComp elt gens scope cpos=>exact JM f ho hd ea eg
         |SetComp elt gens scope cpos=>unfold trE at ea;cases ea
         |DictComp k elt gens scope cpos=>unfold trE at ea;cases ea
         |_=>exact absurd rfl hc
       ·exact qV
      ·exact qV
     ·split
      ·split
       ·rename_i hc;split
        ·rename_i i j a b ei ej ea eb;split
         ·exact qV
         ·rename_i hij;unfold qHU at hc;simp only[wC,uH,vg,beq_iff_eq]at hc;obtain⟨⟨⟨⟨⟨⟨⟨⟨c1,c2⟩,c3⟩,c4⟩,c5⟩,c6⟩,c7⟩,c8⟩,c9⟩:=hc;refine qDX f.calm (by rw[f.hN];exact f.nd) (by rw[f.hN];exact zC ei) (by rw[f.hN];exact zC ej) hij (by rw[f.sc];exact c2) (by rw[f.sc];exact c3) (JJ c5 (iE _ _ _ ea X f).1 (JJ c6 (iE _ _ _ eb X f).1 X5)) ?_;exact C1 (by unfold Env.blockKind;rw[f.sc];exact c1) (by rw[f.sc];exact c2) (by rw[f.sc];exact c3) c4 c9 c5 c6 c7 c8
        ·exact qV
       ·exact qV
      ·exact qV
     ·split
      ·rename_i hc;simp only[wC]at hc;split
       ·rename_i o' i' v' eo ei ev;exact qD4 f.hu (iE _ _ _ eo X f).1 (iE _ _ _ ei X f).1 (iE _ _ _ ev X f).1 hc.1 hc.2
       ·exact qV
      ·exact qV
     ·exact qV
    ·exact qV
   ·split
    ·rename_i hc;split
     ·rename_i p ep;exact v0 f ep hc
     ·split
      ·rename_i a ea;exact Z7 (iE _ _ _ ea X f).1 hc
      ·exact qV
    ·exact qV
   ·split
    ·intro pins s0 σ H D I q;obtain⟨φ,h,σa,o,h',R,rs,e,k⟩:=q;unfold ex at e;cases e
    ·exact qV
   ·split
    ·split
     ·rename_i p ep;split
      ·rename_i hcc;rw[wC]at hcc;exact qBX f fx hx (e:=p.1) (i:=p.2) ep (i1 _ _ X f fx ho hx) (i3 _ _ X f fx ho hcc.2) hcc.1
      ·exact qV
     ·exact qV
    ·exact qV
   ·split
    ·split
     ·rename_i a ea;exact qFE (iE _ _ _ ea X f).1
     ·exact qV
    ·exact qV
   ·split
    ·rename_i a ea;exact qDm (iE _ _ _ ea X f).2 (i2 _ _ X f fx ho hx) (i2 _ _ X f fx ho hx)
    ·exact qV
   ·split
    ·split
     ·rename_i hs;split
      ·rename_i it g ei eg;exact qDy hx f.calm (iI _ _ _ _ ei X f) (z8 f eg) (i2 _ _ X f fx ho hx) (W6 hs)
      ·exact qV
     ·exact qV
    ·exact qV
   ·split
    ·split
     ·rename_i a ea;exact u8 hx (iE _ _ _ ea X f).2 (i2 _ _ X f fx ho hx)
     ·exact qV
    ·exact qV
   ·exact qV
  ·cases sts with
   |nil=>unfold Qp;exact qCF
   |cons s r=>unfold Qp;exact y4 (i1 _ _ X f fx ho hx) (i2 _ _ X f fx ho hx)
  ·rcases(Bool.eq_false_or_eq_true (qBp st)).imp P9 (λh=>qGX n Γ st h) with(⟨e,p,rfl⟩|⟨a,b,p,rfl⟩|⟨c,t,u,p,rfl⟩|⟨e,p,rfl⟩)|hf
   ·unfold trS at hc ⊢;dsimp only at hc ⊢;split
    ·rename_i hn;split
     ·rename_i p ep;exact n8 f fx ep hn
     ·split
      ·exact zx rfl
      ·exact zx rfl
    ·exact zx rfl
   ·unfold trS;dsimp only;split
    ·rename_i c ec;exact p7 f fx ec
    ·exact zx rfl
   ·unfold trS at hc ⊢;dsimp only at hc ⊢;split
    ·rename_i c' ec;rw[ec]at hc;dsimp only at hc;rw[S.clean,wC]at hc;exact qDN (λE=>(iE _ _ _ ec _ (f.wish E)).2) (i4 _ _ X f fx ho hc.1) (i4 _ _ X f fx ho hc.2)
    ·exact zx rfl
   ·unfold trS;dsimp only;split
    ·exact zx rfl
    ·exact zx rfl
   ·exact zx (P5 hc (λf as z=>by rw[z]at hf;cases hf) (λc z=>by rw[z]at hf;cases hf) (λc t u z=>by rw[z]at hf;cases hf))
  ·cases sts with
   |nil=>unfold Qp;exact qBq
   |cons s r=>
    unfold Qp at hc ⊢;rw[Ss.clean,wC]at hc;exact qAD (i1 _ _ X.nox (f.wish _) (fx.wish _) ho rfl) (i3 _ _ X f fx ho hc.1) (i4 _ _ X f fx ho hc.2)
end
theorem len1{α:Type}{us:List α}(h:us.length=1):∃a,us=[a]:=List.length_eq_one_iff.mp h
theorem len2{α:Type}{us:List α}(h:us.length=2):∃a b,us=[a,b]:=by
 cases us with
 |nil=>cases h
 |cons a r=>obtain⟨b,rfl⟩:=len1 (us:=r) (by simpa using h);exact⟨a,b,rfl⟩
theorem len3{α:Type}{us:List α}(h:us.length=3):∃a b c,us=[a,b,c]:=by
 cases us with
 |nil=>cases h
 |cons a r=>obtain⟨b,c,rfl⟩:=len2 (us:=r) (by simpa using h);exact⟨a,b,c,rfl⟩
set_option genInjectivity false in structure D3 where
 x:Str
 st:Stmt
 ps:List Str
 N:List Str
set_option genInjectivity false in structure Tbl where
 ds:List D3
 gl:List (Str×E)
 bl:List Str
 cls:List Str:=[]
 xr:List Str:=[]
noncomputable def Tbl.gam(T:Tbl)(d:D3):Gam:=⟨d.N,_L.defScope d.st,T.ds.map (·.x),T.gl,T.bl,λ_=>true,T.cls,T.xr.contains d.x⟩
noncomputable def ZN(b:Ss):Ss:=if b.clean=true then b else .cons .stop .nil
noncomputable def Tbl.fn(T:Tbl)(d:D3):Fn:=⟨d.ps.length,d.N.length,ZN (Qp 60 (T.gam d) (_L.defBody d.st))⟩
noncomputable def Tbl.fns(T:Tbl):List Fn:=T.ds.map T.fn
structure ClsOk(K:PySem.W.Frag)(mg:Str->Option Value)(cn:List Str):Prop where
 cl:∀(c:Nat) x,cn[c]?=some x->∃C,mg x=some (.ref C)/\l8 K C
 sb:∀c k C D,CA mg cn c=some C->CA mg cn k=some D->PySem.W.kitOne K (.ref C) (.ref D)=some (qC6 c k)
 sv:∀c C,CA mg cn c=some C->PySem.W.kitOne K (.ref C) (.type "ValueError")=some true
 ro:∀c C D,CA mg cn c=some C->CA mg cn 0=some D->PySem.W.exmOne K (.ref C) (.ref D)=some true
 xs:Xs K mg cn
theorem ClsOk.nil{K:PySem.W.Frag}{mg:Str->Option Value}:ClsOk K mg []:=
 ⟨λc x h=>by simp at h,λc k C D h=>by obtain⟨x,e,_⟩:=S0 h;simp at e,λc C h=>by obtain⟨x,e,_⟩:=S0 h;simp at e,λc C D h=>by obtain⟨x,e,_⟩:=S0 h;simp at e,⟨λx h=>by simp at h,λx h=>by simp at h⟩⟩
structure S7(K:PySem.W.Frag)(mg:Str->Option Value)(G:List Addr)(T:Tbl)(fa:List Addr)(fd:List FuncData):Prop where
 def_:∀(i:Nat) d,T.ds[i]?=some d->∃a f,fa[i]?=some a/\fd[i]?=some f/\Fun K d.x d.x d.st a f/\zS d.N d.ps (_L.defScope d.st)/\mg d.x=some (.ref a)/\Binds K f d.ps []
 gls:∀x e,T.gl.lookup x=some e->(∃v u,e=.cst v/\mg x=some u/\RelV v u/\∀φ,rv φ v v)\/(∃g a,e=.glob g/\mg x=some (.ref a)/\G[g]?=some a)
 blt:∀x,T.bl.contains x=true->mg x=none
 cls:ClsOk K mg T.cls
 gtu:∀a∈G,∃o,K.lookup a=some o/\o.cls=.type "tuple"/\o.dict=none
theorem A5{φ:List Addr}{ws vs:List V}(r:rvs φ ws vs)(n:Nat):rst φ (ws.map some++List.replicate n none) (vs.map some++List.replicate n none):=by
 refine qR ?_ ?_
 ·induction r with
  |nil=>exact .nil
  |cons h t ih=>exact .cons ⟨_,rfl,h⟩ ih
 ·induction n with
  |zero=>exact .nil
  |succ n ih=>exact .cons trivial ih
section
variable{P:Program}{w:World}{K:PySem.W.Frag}{mg:Str->Option Value}{base:Heap}{G:List Addr}{T:Tbl}{fa:List Addr}{fd:List FuncData}
theorem qD8{k i:Nat}{d:D3}(h1:T.ds[i]?=some d){ws:List V}{h h':AH}{v:V}(e:Fk T.fns (k+1) i ws h=.ok (v,h')):ws.length=d.ps.length/\d.ps.length<=d.N.length/\∃o,exs (Fk T.fns k) (Qp 60 (T.gam d) (_L.defBody d.st)) (ws.map some++List.replicate (d.N.length-d.ps.length) none) h=.ok (o,h')/\
  ((∃σ,o=.nx σ/\v=.non)\/o=.rt v):=by
 unfold Fk at e;have ht:T.fns[i]?=some (T.fn d):=by unfold Tbl.fns;rw[wj,h1];rfl
 rw[ht]at e;dsimp only at e;split at e
 ·rename_i hc;obtain⟨⟨o,h2⟩,e2,e⟩:=tK e;have e3:exs (Fk T.fns k) (ZN (Qp 60 (T.gam d) (_L.defBody d.st))) (ws.map some++List.replicate (d.N.length-d.ps.length) none) h=.ok (o,h2):=e2;have e4:exs (Fk T.fns k) (Qp 60 (T.gam d) (_L.defBody d.st)) (ws.map some++List.replicate (d.N.length-d.ps.length) none) h=.ok (o,h2):=by
   unfold ZN at e3;split at e3
   ·exact e3
   ·unfold exs ex at e3;cases e3
  refine⟨hc.1,hc.2,o,?_,?_⟩
  ·cases o<;>cases e<;>exact e4
  ·cases o with
   |nx σ=>cases e;exact .inl ⟨σ,rfl,rfl⟩
   |rt u=>cases e;exact .inr rfl
   |bk σ=>cases e
   |ct σ=>cases e
 ·cases e
theorem qA2{k i c:Nat}{d:D3}(h1:T.ds[i]?=some d){ws:List V}{h h':AH}(e:Fk T.fns (k+1) i ws h=.exc c h'):ws.length=d.ps.length/\d.ps.length<=d.N.length/\(Qp 60 (T.gam d) (_L.defBody d.st)).clean=true/\exs (Fk T.fns k) (Qp 60 (T.gam d) (_L.defBody d.st)) (ws.map some++List.replicate (d.N.length-d.ps.length) none) h=.exc c h':=by
 unfold Fk at e;have ht:T.fns[i]?=some (T.fn d):=by unfold Tbl.fns;rw[wj,h1];rfl
 rw[ht]at e;dsimp only at e;split at e
 ·rename_i hc;have e3:(exs (Fk T.fns k) (ZN (Qp 60 (T.gam d) (_L.defBody d.st))) (ws.map some++List.replicate (d.N.length-d.ps.length) none) h).bind (λ(o,h1)=>match o with | .nx _=>Res.ok (V.non,h1) | .rt v=>.ok (v,h1)|_=>.stuck)=.exc c h':=e;unfold ZN at e3;split at e3
  ·rename_i hcl;refine⟨hc.1,hc.2,hcl,?_⟩;revert e3;generalize exs (Fk T.fns k) (Qp 60 (T.gam d) (_L.defBody d.st)) _ h=r;intro e3;cases r with
   |stuck=>cases e3
   |exc c2 h2=>cases e3;rfl
   |ok p=>obtain⟨o,h2⟩:=p;cases o<;>cases e3
  ·unfold exs ex at e3;cases e3
 ·cases e
theorem qBJ(O:S7 K mg G T fa fd){k:Nat}{d:D3}(f0:∀(i:Nat) d a f,T.ds[i]?=some d->fa[i]?=some a->fd[i]?=some f->FnOk P w K mg base _L.CX0 (2*k) a f d.ps (spF G (Fk T.fns k) K i))(f1:∀(i:Nat) d a f,T.ds[i]?=some d->fa[i]?=some a->fd[i]?=some f->FnOk P w K mg base (CX1 P w) (2*k) a f d.ps (spX mg T.cls G (Fk T.fns k) K i))
  (hS:zS d.N d.ps (_L.defScope d.st)) (CX:_L.CXT) (a:Addr) (cdv:Value) (A:Around) (outer:List Env) (s:Shared) (H:Hp) (E:_L.XK) (E2:Value->Shared->Prop) (hr:Room (2*k+1) (A.deeper (envOfC d.x (_L.defScope d.st) s.heap.objs.size a cdv))):
  Fit (T.gam d) ((_L.cxOf CX P w K mg base d.N d.x (_L.defScope d.st) a cdv A outer s H E).wish E2) G (Fk T.fns k)/\FitX (T.gam d) ((_L.cxOf CX P w K mg base d.N d.x (_L.defScope d.st) a cdv A outer s H E).wish E2) G (Fk T.fns k):=by
 have get:∀(g:Nat) x,(T.gam d).fns[g]?=some x->∃d2 a2 f2,T.ds[g]?=some d2/\d2.x=x/\fa[g]?=some a2/\fd[g]?=some f2/\mg x=some (.ref a2)/\PySem.W.keepIn K (.ref a2)=true/\Binds K f2 d2.ps []:=λg x eg=>by
  have eg':(T.ds.map (·.x))[g]?=some x:=eg;rw[wj]at eg';cases hd:T.ds[g]? with
  |none=>rw[hd]at eg';cases eg'
  |some d2=>
   rw[hd]at eg';cases eg';obtain⟨a2,f2,q1,q2,q3,q4,q5,q6⟩:=O.def_ g d2 hd;exact⟨d2,a2,f2,rfl,rfl,q1,q2,q5,q3.kp,q6⟩
 refine⟨⟨rfl,hS.nd,rfl,rfl,λ_ _=>rfl,λg x eg=>?_,O.gls,O.blt,?_,hr.gd,O.gtu,O.cls.xs⟩,⟨rfl,rfl,rfl,λg x eg=>?_,O.cls.cl,O.cls.sb,O.cls.sv,O.cls.ro⟩⟩
 ·obtain⟨d2,a2,f2,q1,rfl,q2,q3,q4,q5,q6⟩:=get g x eg;exact⟨2*k,a2,f2,d2.ps,f0 g d2 a2 f2 q1 q2 q3,hr.mono (Nat.le_succ _),q4,q5,q6,hr.in1⟩
 ·have:=hr.units;show (A.deeper (envOfC d.x (_L.defScope d.st) s.heap.objs.size a cdv)).units+8<cLine;omega
 ·obtain⟨d2,a2,f2,q1,rfl,q2,q3,q4,q5,q6⟩:=get g x eg;exact⟨2*k,a2,f2,d2.ps,f1 g d2 a2 f2 q1 q2 q3,hr.mono (Nat.le_succ _),q4,q5,q6⟩
theorem U7(O:S7 K mg G T fa fd):∀(k:Nat),(∀(i:Nat) d a f,T.ds[i]?=some d->fa[i]?=some a->fd[i]?=some f->FnOk P w K mg base _L.CX0 (2*k) a f d.ps (spF G (Fk T.fns k) K i))/\
  (∀(i:Nat) d a f,T.ds[i]?=some d->fa[i]?=some a->fd[i]?=some f->FnOk P w K mg base (CX1 P w) (2*k) a f d.ps (spX mg T.cls G (Fk T.fns k) K i))
 | 0=>⟨λi d a f h1 h2 h3=>⟨(λvs H Q E h=>by obtain⟨_,_,_,_,_,_,_,e,_⟩:=h;unfold Fk at e;cases e),(λA outer s H args us vs Q E hr e0 hb r h=>by obtain⟨_,_,_,_,_,_,_,e,_⟩:=h;unfold Fk at e;cases e)⟩,
   λi d a f h1 h2 h3=>⟨(λvs H Q E h=>by obtain⟨_,_,_,_,_,_,_,_,e,_⟩:=h;unfold Fk at e;cases e),(λA outer s H args us vs Q E hr e0 hb r h=>by obtain⟨_,_,_,_,_,_,_,_,e,_⟩:=h;unfold Fk at e;cases e)⟩⟩
 |k+1=>by
  obtain⟨f0,f1⟩:=U7 O k;refine⟨λi d a f h1 h2 h3=>?_,λi d a f h1 h2 h3=>?_⟩
  ·obtain⟨a',f',e1,e2,hF,hS,hm,hB⟩:=O.def_ i d h1;rw[h2]at e1;cases e1;rw[h3]at e2;cases e2;refine hF.ok hS (λvs H Q E h=>?_) (λcdv A outer s H vs Q E hr h=>?_)
   ·obtain⟨φ,h0,ws,v,h',R,r,e,_⟩:=h;rw[<-Paired.length r];exact(qD8 h1 e).1
   ·obtain⟨φ,h0,ws,v,h',R,r,e,kk⟩:=h;obtain⟨l1,l2,o,eo,ho⟩:=qD8 h1 e;obtain⟨fit,fitx⟩:=qBJ O f0 f1 hS _L.CX0 a cdv A outer s H E (λ_ _=>False) hr;refine⟨_,(Jk (G:=G) (F:=Fk T.fns k) 60).2.1 (T.gam d) (_L.defBody d.st) _ fit fitx (λ_=>rfl) rfl,φ,h0,_,o,h',R,?_,eo,λφ' H' x' R'=>?_⟩
    ·unfold _L.start;rw[<-Paired.length r,l1];exact A5 r _
    ·rcases ho with⟨σ,rfl,rfl⟩|rfl
     ·exact λσc _=>kk φ' H' .non x' R' trivial
     ·exact λu ru=>kk φ' H' u x' R' ru
  ·obtain⟨a',f',e1,e2,hF,hS,hm,hB⟩:=O.def_ i d h1;rw[h2]at e1;cases e1;rw[h3]at e2;cases e2;obtain⟨oc,od,kV,doc,pm,an,cdv,ct,osl,rfl,lk,hcd⟩:=hF.ex;refine _L.fn_of lk hcd hS (λvs H Q E h=>?_) λA outer s H vs Q E hr h=>?_
   ·obtain⟨φ,h0,ws,c,C,h',R,r,e,_⟩:=h;rw[<-Paired.length r];exact(qA2 h1 e).1
   ·obtain⟨φ,h0,ws,c,C,h',R,r,e,ca,kk⟩:=h;obtain⟨l1,l2,cl,eo⟩:=qA2 h1 e;obtain⟨fit,fitx⟩:=qBJ O f0 f1 hS (CX1 P w) a cdv A outer s H E (_L.cxOf (CX1 P w) P w K mg base d.N d.x (_L.defScope d.st) a cdv A outer s H E).xe hr;refine⟨λ_ σc H1=>tX (_L.cxOf (CX1 P w) P w K mg base d.N d.x (_L.defScope d.st) a cdv A outer s H E) G T.cls (exs (Fk T.fns k) (Qp 60 (T.gam d) (_L.defBody d.st))) σc H1 E,λpins s1 σc H1 D I q=>?_,φ,h0,_,c,C,h',R,?_,eo,ca,kk⟩
    ·refine wpAny_mono ((Jk (G:=G) (F:=Fk T.fns k) 60).2.2.2 (T.gam d) (_L.defBody d.st) _ fit fitx (λ_=>rfl) cl pins s1 σc H1 E I q) (λ_ _ z=>z.elim) λev s' z=>?_;rcases z with⟨σ1,s2,H2,_,I2,ea,C2,H3,rfl,Fy,ec⟩|⟨_,σ1,s2,H2,h2,ea,vs2,C2,I2,mk,rfl,rfl,ec⟩
     ·exact wpAny_mono (P4 I2 rfl rfl rfl Fy) (λ_ s3 z=>⟨ea,C2,H3,rfl,z,ec⟩) λ_ _ z=>z
     ·exact wpAny_mono (C5 I2 rfl rfl rfl mk) (λ_ s3 z=>⟨ea,C2,H2,rfl,z,ec⟩) λ_ _ z=>z
    ·unfold _L.start;rw[<-Paired.length r,l1];exact A5 r _
theorem n6(O:S7 K mg G T fa fd)(k i:Nat)(d:D3)(a:Addr)(f:FuncData)(h1:T.ds[i]?=some d)(h2:fa[i]?=some a)(h3:fd[i]?=some f):FnOk P w K mg base _L.CX0 (2*k) a f d.ps (spF G (Fk T.fns k) K i):=(U7 O k).1 i d a f h1 h2 h3
end
noncomputable def qAZ(K:PySem.W.Frag):_L.Sp:=λvs H Q _=>∃(a:Addr) (ns:List Int),vs=[.ref a]/\_L.Only H/\SqL K H a (ns.map V.int)/\ns.length<=63/\∀H',Q (.bl true) H'
noncomputable def B4(gs:List O)(ns:List Int):AH:=gs++[.lst true (ns.map V.int)]
def L3(K:PySem.W.Frag):List Addr->List O->Prop
 | [],[]=>True
 |a::as,.tup xs::os=>(SqT K (λ_=>none) a xs/\xs.all flat=true)/\L3 K as os
 |_,_=>False
theorem JC{φ:List Addr}:∀{xs:List V},xs.all flat=true->rvs φ xs xs
 | [],_=>.nil
 |x::xs,h=>by
  simp only[List.all_cons,wC]at h;refine .cons ?_ (JC h.2);cases x<;>first|rfl|exact trivial|(cases h.1)
theorem w9{K:PySem.W.Frag}{H:Hp}{a:Addr}{xs:List V}(q:SqT K (λ_=>none) a xs):SqT K H a xs:=by
 rcases q with(h|⟨o,h⟩)|h
 ·cases h
 ·cases h
 ·exact .inr h
theorem Zc{K:PySem.W.Frag}:∀{as:List Addr}{os:List O},L3 K as os->as.length=os.length/\∀(i:Nat) o a,os[i]?=some o->as[i]?=some a->∃xs,o=.tup xs/\SqT K (λ_=>none) a xs/\xs.all flat=true
 | [],[],_=>⟨rfl,λi o a h=>by simp at h⟩
 | [],_::_,h=>False.elim h
 |_::_,[],h=>False.elim h
 |a::as,.lst _ _::os,h=>False.elim h
 |a::as,.tup xs::os,h=>by
  obtain⟨h1,h2⟩:=h;obtain⟨l,k⟩:=Zc h2;refine⟨by simp[l],λi o b e1 e2=>?_⟩;cases i with
  |zero=>simp at e1 e2;subst e1 e2;exact⟨xs,rfl,h1⟩
  |succ i=>exact k i o b (by simpa using e1) (by simpa using e2)
theorem V2{P:Program}{w:World}{K:PySem.W.Frag}{mg:Str->Option Value}{base:Heap}{G:List Addr}{gs:List O}{T:Tbl}{fa:List Addr}{fd:List FuncData}(O:S7 K mg G T fa fd)(hG:L3 K G gs){k i:Nat}{d:D3}{a:Addr}{f:FuncData}
  (h1:T.ds[i]?=some d) (h2:fa[i]?=some a) (h3:fd[i]?=some f) (hp:d.ps=(["_law_script"]:List Str)) (main:∀ns:List Int,ns.length<=63->∃h',Fk T.fns k i [.ref gs.length] (B4 gs ns)=.ok (.bl true,h')):
  FnOk P w K mg base _L.CX0 (2*k) a f (["_law_script"]:List Str) (qAZ K):=by
 have F:=n6 (P:=P) (w:=w) (base:=base) O k i d a f h1 h2 h3;rw[hp]at F;refine⟨λvs H Q E h=>by obtain⟨b,ns,rfl,_⟩:=h;rfl,λA outer s H args us vs Q E hr e0 hb r h=>?_⟩;obtain⟨b,ns,rfl,hO,hS,hl,q⟩:=h;obtain⟨h',e⟩:=main ns hl;obtain⟨lg,kg⟩:=Zc hG;refine F.run A outer s H args us _ Q E hr e0 hb r ⟨G++[b],B4 gs ns,[.ref gs.length],.bl true,h',⟨by unfold B4;simp[lg],⟨[b],rfl⟩,λj o c e1 e2=>?_,λj l xs ys c e1 e2 e3 e4=>?_⟩,.cons (by show (G++[b])[gs.length]?=some b;rw[<-lg];simp) .nil,e,λφ' H' u x' R' ru=>by rw[zd ru];exact q H'⟩
 ·unfold B4 at e1;by_cases hj:j<gs.length
  ·rw[wD hj]at e1;rw[wD (by omega)]at e2;obtain⟨xs,rfl,h5,h6⟩:=kg j o c e1 e2;exact⟨xs,w9 h5,JC h6⟩
  ·have hj':j=gs.length:=by
    have:=(wB.mp e1).1;simp at this;omega
   subst hj';simp at e1;rw[<-lg]at e2;simp at e2;subst e1 e2;refine⟨ns.map V.int,?_,JC (QC ns)⟩;rcases hS with(z|⟨ob,z⟩)|z
   ·rcases hO b with y|⟨ob,xs,y⟩<;>(rw[y]at z;cases z)
   ·exact .inl ⟨ob,z⟩
   ·exact .inr (.inr z)
 ·have no:∀{m:Nat}{z:_P.O},z.mu=true->(B4 gs ns)[m]?=some z->False:=λ{m zs} mz em=>by
   unfold B4 at em;by_cases hj:m<gs.length
   ·rw[wD hj]at em;obtain⟨xs,ex,_⟩:=kg m _ (G[m]'(by omega)) em (wE (by omega));subst ex;cases mz
   ·have hj':m=gs.length:=by
     have:=(wB.mp em).1;simp at this;omega
    subst hj';simp at em;subst em;cases mz
  exact(no ‹_› ‹_›).elim
open _L
theorem ClsOk.of{K:PySem.W.Frag}{mg:Str->Option Value}{cn:List Str}{Cs:List Addr}(hm:∀(c:Nat) x,cn[c]?=some x->∃C,Cs[c]?=some C/\mg x=some (.ref C)/\PySem.W.nsIn K mainGlobals x=some (some (.ref C)))
  (hx:∀(c:Nat) C,Cs[c]?=some C->l8 K C/\PySem.W.kitOne K (.ref C) (.type "ValueError")=some true)
  (hs:∀(c k:Nat) C D,Cs[c]?=some C->Cs[k]?=some D->PySem.W.kitOne K (.ref C) (.ref D)=some (qC6 c k))
  (hr:∀(c:Nat) C D,Cs[c]?=some C->Cs[0]?=some D->PySem.W.exmOne K (.ref C) (.ref D)=some true)
  (hn:cn.Nodup) (h0:cn[0]?=some ("HealError":Str)) (hv:("ValueError":Str)∉cn) (hl:cn.length<999):ClsOk K mg cn:=by
 have up:∀{c:Nat}{C:Addr},CA mg cn c=some C->Cs[c]?=some C:=λ{c C} h=>by
  obtain⟨x,e,em⟩:=S0 h;obtain⟨D,hD,eD,_⟩:=hm c x e;cases em.symm.trans eD;exact hD
 refine⟨λc x h=>by obtain⟨C,hC,e,_⟩:=hm c x h;exact⟨C,e,(hx c C hC).1⟩,λc k C D h1 h2=>hs c k C D (up h1) (up h2),λc C h=>(hx c C (up h)).2,λc C D h1 h2=>hr c C D (up h1) (up h2),⟨λx h=>?_,λx h1 y h2 C D m1 m2=>?_⟩⟩
 ·obtain⟨c,e⟩:=vq.mp h;obtain⟨C,hC,e1,e2⟩:=hm c x e;exact⟨C,e1,e2,(hx c C hC).1,(hx c C hC).2⟩
 ·obtain⟨c,e1⟩:=vq.mp h1;obtain⟨k,e2⟩:=vq.mp h2;obtain⟨C',hC,q1,_⟩:=hm c x e1;obtain⟨D',hD,q2,_⟩:=hm k y e2;rw[m1]at q1;cases q1;rw[m2]at q2;cases q2;rw[hs c k C D hC hD];have one:∀{i j:Nat}{z z':Str},cn[i]?=some z->cn[j]?=some z'->(i=j↔z=z'):=λ{i j z z'} a b=>⟨λh=>by subst h;rw[a]at b;cases b;rfl,λh=>_L.nodup_ix hn a (h ▸ b)⟩
  have lk:=(wB.mp e2).1;have b1:(k==c)=decide (y=x):=by rw[wm];simp[one e2 e1]
  have b2:(k==0)=decide (y="HealError"):=by rw[wm];simp[one e2 h0]
  have b3:(k==999)=false:=by simp;omega
  have b4:decide (y=("ValueError":Str))=false:=by simp;rintro rfl;exact hv h2
  unfold qC6 G8;rw[b1,b2,b3,b4]
structure y8(K:PySem.W.Frag)(x:Str)(C:Addr):Prop where
 a:PySem.W.nsIn K mainGlobals x=some (some (.ref C))
 b:l8 K C
 j:PySem.W.kitOne K (.ref C) (.type "ValueError")=some true
noncomputable def qBM(K:PySem.W.Frag)(Cs:List Addr):Bool:=Cs.zipIdx.all λp=>Cs.zipIdx.all (λq=>PySem.W.kitOne K (.ref p.1) (.ref q.1)==some (qC6 p.2 q.2))&&PySem.W.exmOne K (.ref p.1) (.ref (Cs.getD 0 0))==some true
theorem ClsOk.all{K:PySem.W.Frag}{h:Heap}{mg:Str->Option Value}{cn:List Str}{Cs:List Addr}(X:K.In h)(G:h.Ns mainGlobals mg)(hp:Paired (y8 K) cn Cs)(hc:qBM K Cs=true)(hn:cn.Nodup)(h0:cn[0]?=some ("HealError":Str))(hv:("ValueError":Str)∉cn)(hl:cn.length<999):ClsOk K mg cn:=by
 have got:∀{c:Nat}{C:Addr},Cs[c]?=some C->∃x,cn[c]?=some x/\y8 K x C:=λ{c C} e=>by
  have l:c<cn.length:=by rw[Paired.length hp];exact(wB.mp e).1
  obtain⟨D,e1,q⟩:=qH hp (wE l);rw[e]at e1;cases e1;exact⟨_,wE l,q⟩
 have mz:∀{c:Nat}{C:Addr},Cs[c]?=some C->(C,c)∈Cs.zipIdx:=λ{c C} e=>List.mk_mem_zipIdx_iff_getElem?.mpr e;have ck:∀{c:Nat}{C:Addr},Cs[c]?=some C->(∀(k:Nat) D,Cs[k]?=some D->PySem.W.kitOne K (.ref C) (.ref D)=some (qC6 c k))/\PySem.W.exmOne K (.ref C) (.ref (Cs.getD 0 0))=some true:=λ{c C} e=>by
  have:=wU.mp hc _ (mz e);rw[wC]at this;exact⟨λk D eD=>beq_iff_eq.mp (wU.mp this.1 _ (mz eD)),beq_iff_eq.mp this.2⟩
 refine ClsOk.of (Cs:=Cs) (λc x e=>?_) (λc C e=>?_) (λc k C D e1 e2=>(ck e1).1 k D e2) (λc C D e1 e2=>?_) hn h0 hv hl
 ·obtain⟨C,e1,q⟩:=qH hp e;exact⟨C,e1,PySem.W.mg_of X G q.a,q.a⟩
 ·obtain⟨x,_,q⟩:=got e;exact⟨q.b,q.j⟩
 ·have:=(ck e1).2;rw[wa,e2]at this;exact this
noncomputable def J9(K:PySem.W.Frag)(x:Str):Bool:=match PySem.W.nsIn K mainGlobals x with
 |some (some (.ref C))=>(PySem.W.clsIn K C).isSome&&(PySem.W.findIn K (.ref C) "__class__"==some (some (.builtin "object.__class__")))&&(PySem.W.mroIn K C (.type "object")==some true)&&(PySem.W.mroIn K C (.type "BaseException")==some true)&&(PySem.W.findIn K (.ref C) "__getattribute__"==some (some (.builtin "BaseException.__getattribute__")))&&(PySem.W.findIn K (.ref C) "__getattr__"==some none)&&PySem.W.excIn K C [.type "ValueError",.type "Exception",.type "BaseException",.type "object"] "ValueError.__new__"&&(PySem.W.kitOne K (.ref C) (.type "ValueError")==some true)
 |_=>false
noncomputable def Ju(K:PySem.W.Frag)(x:Str):Addr:=match PySem.W.nsIn K mainGlobals x with
 |some (some (.ref C))=>C
 |_=>0
noncomputable def S8(K:PySem.W.Frag)(cn:List Str):Bool:=cn.all (J9 K)&&qBM K (cn.map (Ju K))
theorem R9{K:PySem.W.Frag}{x:Str}(h:J9 K x=true):y8 K x (Ju K x):=by
 unfold J9 at h;unfold Ju;split at h
 ·rename_i C e;simp only[wC,beq_iff_eq]at h;obtain⟨⟨⟨⟨⟨⟨⟨h1,h2⟩,h3⟩,h4⟩,h5⟩,h6⟩,h7⟩,h8⟩:=h;obtain⟨cd,h1⟩:=Option.isSome_iff_exists.mp h1;exact⟨e,⟨⟨cd,h1⟩,h2,h3,h4,h5,h6,h7⟩,h8⟩
 ·cases h
theorem ClsOk.rec_{K:PySem.W.Frag}{h:Heap}{mg:Str->Option Value}{cn:List Str}(X:K.In h)(G:h.Ns mainGlobals mg)(hc:S8 K cn=true)(hn:cn.Nodup)(h0:cn[0]?=some ("HealError":Str))(hv:("ValueError":Str)∉cn)(hl:cn.length<999):ClsOk K mg cn:=by
 unfold S8 at hc;rw[wC]at hc;refine ClsOk.all (Cs:=cn.map (Ju K)) X G ?_ hc.2 hn h0 hv hl;have go:∀l:List Str,l.all (J9 K)=true->Paired (y8 K) l (l.map (Ju K)):=λl=>by
  induction l with
  |nil=>exact λ_=>.nil
  |cons a r ih=>
   intro h;rw[List.all_cons,wC]at h;exact .cons (R9 h.1) (ih h.2)
 exact go cn hc.1
abbrev qEP(K:PySem.W.Frag)(d:D3):Prop:=∃(f:Addr) (oc:Value) (od an:Option Addr) (sl:Array (Option Value)) (kV dc pm cd ct:Value),PySem.W.nsIn K mainGlobals d.x=some (some (.ref f))/\K.lookup f=some ⟨oc,od,.func (PySem.W.fnOf d.x d.x (zn d.st) (defBody d.st) (defScope d.st) .none kV dc pm an cd ct),sl⟩/\PySem.W.codeIn K cd d.x=true/\PySem.W.keepIn K (.ref f)=true
structure qC9(d:D3):Prop where
 sc:zS d.N d.ps (defScope d.st)
 bd:∀(kV doc pm:Value) (an:Option Addr) (cdv ct:Value) (us:List Value),us.length=d.ps.length->bindArgs (PySem.W.fnOf d.x d.x (zn d.st) (defBody d.st) (defScope d.st) .none kV doc pm an cdv ct) ⟨us,[]⟩=pure (d.ps.zip us)
theorem qBQ{K:PySem.W.Frag}{h:Heap}{mg:Str->Option Value}(X:K.In h)(G:h.Ns mainGlobals mg):∀(ds:List D3),(∀d∈ds,qEP K d)->(∀d∈ds,qC9 d)->∃(fa:List Addr) (fd:List FuncData),∀(i:Nat) d,ds[i]?=some d->∃a f,fa[i]?=some a/\fd[i]?=some f/\Fun K d.x d.x d.st a f/\zS d.N d.ps (_L.defScope d.st)/\mg d.x=some (.ref a)/\Binds K f d.ps []
 | [],_,_=>⟨[],[],λi d h=>by simp at h⟩
 |d::ds,h,hk=>by
  obtain⟨fa,fd,k⟩:=qBQ X G ds (λx hx=>h x (by simp[hx])) λx hx=>hk x (by simp[hx]);obtain⟨f,oc,od,an,sl,kV,dc,pm,cd,ct,h1,h2,h3,h4⟩:=h d (by simp);have hd:=hk d (by simp);refine⟨f::fa,PySem.W.fnOf d.x d.x (zn d.st) (defBody d.st) (defScope d.st) .none kV dc pm an cd ct::fd,λi e he=>?_⟩;cases i with
  |zero=>cases he;exact⟨_,_,rfl,rfl,qAn h2 h3 h4,hd.sc,PySem.W.mg_of X G h1,(qAn h2 h3 h4).binds hd.bd⟩
  |succ i=>exact k i e he
theorem qGi{K:PySem.W.Frag}{d:D3}{a:Addr}{f:FuncData}{x:Str}(F:Fun K d.x d.x d.st a f)(h:qC9 d)(hp:d.ps=[x])(s:Shared)(v:Value):BindsTo s f ⟨[v],[]⟩ [(x,v)]:=by
 obtain⟨oc,od,kV,doc,pm,an,cdv,ct,osl,rfl,lk,hcd⟩:=F.ex;refine .of_eq ?_;rw[h.bd kV doc pm an cdv ct [v] (by rw[hp];rfl),hp];rfl
inductive T where
 |v (x:V)|cell (n:Nat)|fz (xs:List T)|lst (xs:List T)|tup (xs:List T)|ob (o:Ob)
noncomputable abbrev Mem:=List (List T)
noncomputable abbrev TS:=List (Option T)
inductive PR(α:Type)|ok(a:α)|exc(c:Nat)(M:Mem)|stuck
noncomputable def PR.bind{α β:Type}:PR α->(α->PR β)->PR β
 | .ok a,f=>f a
 | .exc c M,_=>.exc c M
 | .stuck,_=>.stuck
@[simp] theorem tD{α β:Type}(a:α)(f:α->PR β):(PR.ok a).bind f=f a:=Eq.trans rfl rfl
@[simp] theorem PR.bind_stuck{α β:Type}(f:α->PR β):(PR.stuck:PR α).bind f=.stuck:=Eq.trans rfl rfl
noncomputable def PR.nx{α:Type}:PR α->PR α
 | .ok a=>.ok a
 | .exc _ _=>.stuck
 | .stuck=>.stuck
@[simp] theorem PR.nx_ok{α:Type}(a:α):(PR.ok a).nx=.ok a:=Eq.trans rfl rfl
@[simp] theorem PR.nx_stuck{α:Type}:(PR.stuck:PR α).nx=.stuck:=Eq.trans rfl rfl
noncomputable def tH{α:Type}:Option α->PR α
 |some a=>.ok a
 |none=>.stuck
@[simp] theorem PR.ofO_some{α:Type}(a:α):tH (some a)=.ok a:=Eq.trans rfl rfl
mutual
noncomputable def T.lf:T->Bool
 | .v _=>true
 | .ob (.exn _)=>true
 | .tup ts=>T.lfs ts
 |_=>false
noncomputable def T.lfs:List T->Bool
 | []=>true
 |t::ts=>T.lf t&&T.lfs ts
end
mutual
noncomputable def T.und(n:Nat):T->Bool
 | .v _=>true
 | .ob _=>true
 | .cell k=>decide (k<n)
 | .fz ts=>T.unds n ts
 | .lst ts=>T.unds n ts
 | .tup ts=>T.unds n ts
noncomputable def T.unds(n:Nat):List T->Bool
 | []=>true
 |t::ts=>T.und n t&&T.unds n ts
end
mutual
noncomputable def T.beq:T->T->Bool
 | .v x,.v y=>decide (x=y)
 | .cell x,.cell y=>decide (x=y)
 | .fz x,.fz y=>T.beqs x y
 | .lst x,.lst y=>T.beqs x y
 | .tup x,.tup y=>T.beqs x y
 | .ob x,.ob y=>decide (x=y)
 |_,_=>false
noncomputable def T.beqs:List T->List T->Bool
 | [],[]=>true
 |x::xs,y::ys=>T.beq x y&&T.beqs xs ys
 |_,_=>false
end
noncomputable abbrev jn:=List (Nat×List T)
noncomputable def qh(d:jn)(M:Mem):Bool:=d.all λp=>match M[p.1]? with|some ts=>T.beqs ts p.2|none=>false
noncomputable def T.its(M:Mem):T->Option (List T)
 | .lst xs=>some xs | .tup xs=>some xs | .fz xs=>some xs | .cell n=>M[n]? | _=>none
noncomputable def T.lis(M:Mem):T->Option (List T)
 | .lst xs=>some xs | .fz xs=>some xs | .cell n=>M[n]? | _=>none
noncomputable def T.mu(M:Mem):T->Option (List T)
 | .lst xs=>some xs | .cell n=>M[n]? | _=>none
noncomputable def zI:List T->Option (List Int)
 | []=>some []
 | .v (.int i)::r=>(zI r).map (i::·)
 |_::_=>none
noncomputable def jg:List T->Option (List Int)
 | []=>some []
 | .v (.int i)::r=>(jg r).map (i::·)
 | .v (.bl b)::r=>(jg r).map ((if b=true then 1 else 0)::·)
 |_=>none
noncomputable def zw:List T->Option (List Bool)
 | []=>some []
 | .v (.bl i)::r=>(zw r).map (i::·)
 |_::_=>none
noncomputable def ji:List T->Option (List V)
 | []=>some []
 | .v x::r=>(ji r).map (x::·)
 |_::_=>none
noncomputable def qf(f:T->T->Option Bool):List T->List T->Option (List Bool)
 | [],[]=>some []
 |x::xs,y::ys=>match f x y,qf f xs ys with
  |some b,some bs=>some (b::bs)
  |_,_=>none
 |_,_=>none
noncomputable def T.isV:T->Option V | .v x=>some x|_=>none
noncomputable def eqT(M:Mem):Nat->T->T->Option Bool
 | 0,s,t=>match s.isV,t.isV with|some x,some y=>eqF x y|_,_=>none
 |n+1,s,t=>match s.isV,t.isV with
  |some x,some y=>eqF x y
  |some _,none=>if (t.its M).isSome then some false else none
  |none,some _=>if (s.its M).isSome then some false else none
  |none,none=>match s.lis M,t.lis M with
   |some xs,some ys=>if xs.length=ys.length then (qf (eqT M n) xs ys).map λbs=>bs.all id else some false
   |some _,none=>if (t.its M).isSome then some false else none
   |none,some _=>if (s.its M).isSome then some false else none
   |none,none=>match s.its M,t.its M with
    |some xs,some ys=>if xs.length=ys.length then (qf (eqT M n) xs ys).map λbs=>bs.all id else (qf (eqT M n) (xs.take ys.length) (ys.take xs.length)).map λ_=>false
    |_,_=>none
noncomputable def v4(xs:List T)(lo hi:Option Int):List T:=(xs.drop (_H.sIx xs.length 0 lo)).take (_H.sIx xs.length xs.length hi-_H.sIx xs.length 0 lo)
noncomputable abbrev TB:=T×Bool
noncomputable def iT(i:Int):TB:=(.v (.int i),true)
noncomputable def bT(b:Bool):TB:=(.v (.bl b),true)
noncomputable def lT(xs:List T):TB:=(.lst xs,T.lfs xs)
noncomputable def qCX(x:T)(xs:List T)(lo hi:Option Int):Option TB:=match x with
 | .tup _=>if _H.sIx xs.length 0 lo=0/\_H.sIx xs.length xs.length hi=xs.length then none else some (.tup (v4 xs lo hi),T.lfs (v4 xs lo hi))
 |_=>some (lT (v4 xs lo hi))
noncomputable def qq(M:Mem)(op:BOp)(x y:T):Option TB:=match x.isV,y.isV with
 |some (.int i),some (.int j)=>match op with
  | .add=>some (iT (i+j))
  | .sub=>some (iT (i-j))
  | .mul=>if jy i||jy j||(mid i&&mid j) then some (iT (i*j)) else none
  | .fdiv=>if 0<j/\(j<1073741824\/mid j=true) then some (iT (i / j)) else if j<0/\mid j=true then some (iT (i.fdiv j)) else none
  | .mod=>if 0<j then some (iT (i % j)) else if j<0 then some (iT (i.fmod j)) else none
  | .pow=>if 0<=j/\j<=1000/\i.natAbs<18446744073709551616 then some (iT (i ^ j.toNat)) else none
  | .band=>some (iT (PySem.Builtin.bitAnd i j))
  | .shl=>if 0<=j/\j<=1000/\i.natAbs<18446744073709551616 then some (iT (i*2 ^ j.toNat)) else none
 |none,some (.int k)=>match op with
  | .mul=>(x.mu M).bind λxs=>if 0<=k/\xs.length*k.toNat<=lim/\k<1000000 then some (lT (List.replicate k.toNat xs).flatten) else none
  |_=>none
 |none,none=>match op with
  | .add=>(match x,y with
   | .tup xs,.tup ys=>if xs≠[]/\xs.length+ys.length<=lim then some (.tup (xs++ys),T.lfs (xs++ys)) else none
   |x,y=>(x.mu M).bind λxs=>(y.mu M).bind λys=>if xs.length+ys.length<=lim then some (lT (xs++ys)) else none)
  |_=>none
 |_,_=>none
noncomputable def T.dct:T->Option (List (Int×V))
 | .ob (.dct kvs)=>some kvs
 |_=>none
noncomputable def inT(M:Mem)(x y:T):Option Bool:=match y.dct with
 |some kvs=>(match x with | .v (.int i)=>some (qC5 kvs i)|_=>none)
 |none=>x.isV.bind λa=>(y.its M).bind λts=>(ji ts).map λxs=>xs.any λz=>_L.eqV z a
noncomputable def qd(M:Mem)(op:COp)(x y:T):Option Bool:=match op with
 | .eq=>eqT M 4 x y
 | .ne=>(eqT M 4 x y).map (!·)
 | .inn=>inT M x y
 | .notin=>(inT M x y).map (!·)
 | .is=>match y.isV with|some .non=>some (match x.isV with|some .non=>true|_=>false)|some (.bl d)=>(match x.isV with|some (.bl c)=>some (c==d)|_=>none)|_=>none
 | .isnot=>match y.isV with|some .non=>some (match x.isV with|some .non=>false|_=>true)|some (.bl d)=>(match x.isV with|some (.bl c)=>some (!(c==d))|_=>none)|_=>none
 | .lt=>match x.isV,y.isV with|some (.int i),some (.int j)=>some (decide (i<j))|_,_=>none
 | .le=>match x.isV,y.isV with|some (.int i),some (.int j)=>some (decide (i<=j))|_,_=>none
 | .gt=>match x.isV,y.isV with|some (.int i),some (.int j)=>some (decide (j<i))|_,_=>none
 | .ge=>match x.isV,y.isV with|some (.int i),some (.int j)=>some (decide (j<=i))|_,_=>none
noncomputable def i7(as:List T)(f:T->Option TB):Option TB:=match as with
 | [a]=>f a
 |_=>none
theorem zb{as:List T}{f:T->Option TB}{r:TB}(e:i7 as f=some r):∃a,as=[a]/\f a=some r:=by
 unfold i7 at e;split at e
 ·exact⟨_,rfl,e⟩
 ·cases e
noncomputable def twoT(as:List T)(f:Int->Int->Option TB):Option TB:=match as with
 | [a,b]=>(match a with
  | .v (.int i)=>(match b with | .v (.int j)=>f i j|_=>none)
  |_=>none)
 |_=>none
theorem twoT_inv{as:List T}{f:Int->Int->Option TB}{r:TB}(e:twoT as f=some r):∃i j,as=[.v (.int i),.v (.int j)]/\f i j=some r:=by
 unfold twoT at e;split at e
 ·split at e
  ·split at e
   ·exact⟨_,_,rfl,e⟩
   ·cases e
  ·cases e
 ·cases e
noncomputable def zG(M:Mem):BF->List T->Option TB
 | .len,as=>i7 as λa=>(a.its M).map λxs=>iT xs.length
 | .sum,as=>i7 as λa=>(a.lis M).bind λxs=>(jg xs).map λis=>iT is.sum
 | .all,as=>i7 as λa=>(a.lis M).bind λxs=>(zw xs).map λbs=>bT (bs.all id)
 | .max,as=>twoT as λi j=>some (iT (if j>i then j else i))
 | .min,as=>twoT as λi j=>some (iT (if j<i then j else i))
 | .abs,as=>i7 as λa=>(match a with | .v (.int i)=>some (iT (if i<0 then -i else i))|_=>none)
 | .list,as=>i7 as λa=>(a.its M).map lT
 | .int,as=>i7 as λa=>(match a with | .v (.int i)=>some (iT i) | .v (.bl b)=>some (iT (if b then 1 else 0))|_=>none)
 | .maxl,as=>i7 as λa=>(a.lis M).bind λxs=>(zI xs).bind λis=>(Y5 is).map iT
 | .bits,as=>i7 as λa=>(match a with | .v (.int i)=>some (iT ((PySem.Builtin.Int.intBits i:Nat):Int))|_=>none)
 | .sorted,as=>i7 as λa=>(a.lis M).bind λxs=>(zI xs).bind λis=>if is.length<64 then some (.lst ((isort is).map λi=>.v (.int i)),true) else none
noncomputable def T.isC(n:Nat):T->Bool | .cell k=>decide (k=n)|_=>false
noncomputable def ZA:Mt->Nat->List T->Mem->Option (TB×Mem)
 | .clr,n,[],M=>(M[n]?).map λ_=>((.v .non,true),M.set n [])
 | .ext,n,[t],M=>(M[n]?).bind λxs=>(t.mu M).bind λys=>if t.isC n=false/\xs.length+ys.length<=lim then some ((.v .non,true),M.set n (xs++ys)) else none
 |_,_,_,_=>none
noncomputable def zX(M:Mem):T->Option String
 | .v .non=>some "NoneType"
 | .v (.bl _)=>some "bool"
 | .v (.int _)=>some "int"
 | .v (.str _)=>some "str"
 | .v _=>none
 | .tup _=>some "tuple"
 | .cell n=>(M[n]?).map λ_=>"list"
 | .ob (.dct _)=>some "dict"
 | .ob _=>none
 |_=>some "list"
noncomputable def T.tx:T->Option PySem.Str
 | .v (.str y)=>some y
 |_=>none
noncomputable def zr(M:Mem)(x y:T):Option TB:=match y with
 | .v (.int i)=>(x.its M).bind λxs=>(ixN xs.length i).bind λj=>(xs[j]?).map λt=>(t,t.lf)
 |_=>none
noncomputable def qEX:List Nat->List T->TS->Option TS
 | [],[],σ=>some σ
 |i::is,x::xs,σ=>qEX is xs (σ.set i (some x))
 |_,_,_=>none
noncomputable def zL:Tg->T->TS->Option TS
 | .name i,t,σ=>some (σ.set i (some t))
 | .tup is,.tup ts,σ=>qEX is ts σ
 | .tup _,_,_=>none
noncomputable def jq(src:List (Option Nat))(σ:TS):TS:=src.map λo=>match o with|none=>none|some j=>(σ[j]?).join
noncomputable def zO(lo:Int)(n:Nat):List T:=(List.range n).map λ(i:Nat)=>.v (.int (lo+(i:Int)))
noncomputable def Zi(M:Mem):T->Option (List T×jn)
 | .lst ts=>some (ts,[])
 | .fz ts=>some (ts,[])
 | .tup ts=>some (ts,[])
 | .cell n=>(M[n]?).map λts=>(ts,[(n,ts)])
 |_=>none
noncomputable def ZS(M:Mem):T->Option (List T×jn)
 | .lst ts=>some (ts,[])
 | .fz ts=>some (ts,[])
 | .cell n=>(M[n]?).map λts=>(ts,[(n,ts)])
 |_=>none
noncomputable def QQ:Nat->List T->List T
 |_,[]=>[]
 |i,t::ts=>.tup [.v (.int (i:Int)),t]::QQ (i+1) ts
noncomputable def qI(d:jn)(g:Tg)(c:TS->Mem->PR (Bool×Mem))(e:TS->Mem->PR (TB×Mem)):List T->List T->Bool->TS->Mem->PR (TB×Mem)
 | [],ys,f,_,M=>.ok ((.lst ys,f),M)
 |x::r,ys,f,σ,M=>match zL g x σ with
  |some σ1=>(c σ1 M).bind λ(b,M2)=>
   if b then (e σ1 M2).bind λ(y,M3)=>if ys.length<lim/\qh d M3=true then qI d g c e r (ys++[y.1]) (f&&y.2) σ1 M3 else .stuck
   else if qh d M2=true then qI d g c e r ys f σ1 M2 else .stuck
  |none=>.stuck
noncomputable def pB(r:PR (TB×Mem)):PR (Bool×Mem):=r.bind λ(x,M)=>match x.1 with | .v (.bl b)=>.ok (b,M)|_=>.stuck
noncomputable def qC7(cn:List PySem.Str):T->Option PySem.Str
 | .ob (.exn c)=>if cn.contains c=true then some c else none
 |_=>none
section
variable (gl:List T)(P:Nat->List T->Mem->PR (TB×Mem))
mutual
noncomputable def pe:E->TS->Mem->PR (TB×Mem)
 | .var i=>λσ M=>match σ[i]? with|some (some t)=>.ok ((t,t.lf),M)|_=>.stuck
 | .cst v=>λ_ M=>if flat v then .ok ((.v v,true),M) else .stuck
 | .glob g=>λ_ M=>match gl[g]? with|some t=>.ok ((t,t.lf),M)|none=>.stuck
 | .bin op a b=>λσ M=>(pe a σ M).bind λ(x,M1)=>(pe b σ M1).bind λ(y,M2)=>(tH (qq M2 op x.1 y.1)).bind λr=>.ok (r,M2)
 | .neg a=>λσ M=>(pe a σ M).bind λ(x,M1)=>match x.1 with | .v (.int i)=>.ok (iT (-i),M1)|_=>.stuck
 | .cmp op a b=>λσ M=>(pe a σ M).bind λ(x,M1)=>(pe b σ M1).bind λ(y,M2)=>(tH (qd M2 op x.1 y.1)).bind λr=>.ok (bT r,M2)
 | .cmp2 o1 o2 a b c=>λσ M=>(pe a σ M).bind λ(x,M1)=>(pe b σ M1).bind λ(y,M2)=>(tH (qd M2 o1 x.1 y.1)).bind λr=>
  if r then (pe c σ M2).bind λ(z,M3)=>(tH (qd M3 o2 y.1 z.1)).bind λr=>.ok (bT r,M3) else .ok (bT false,M2)
 | .cmp3 o1 o2 o3 a b c d=>λσ M=>(pe a σ M).bind λ(x,M1)=>(pe b σ M1).bind λ(y,M2)=>(tH (qd M2 o1 x.1 y.1)).bind λr=>
  if r then (pe c σ M2).bind λ(z,M3)=>(tH (qd M3 o2 y.1 z.1)).bind λr=>(if r then (pe d σ M3).bind λ(w,M4)=>(tH (qd M4 o3 z.1 w.1)).bind λr=>.ok (bT r,M4) else .ok (bT false,M3)) else .ok (bT false,M2)
 | .and a b=>λσ M=>(pB (pe a σ M)).bind λ(x,M1)=>if x then pe b σ M1 else .ok (bT false,M1)
 | .or a b=>λσ M=>(pB (pe a σ M)).bind λ(x,M1)=>if x then .ok (bT true,M1) else pe b σ M1
 | .not a=>λσ M=>(pB (pe a σ M)).bind λ(x,M1)=>.ok (bT (!x),M1)
 | .ite c a b=>λσ M=>(pB (pe c σ M)).bind λ(x,M1)=>if x then pe a σ M1 else pe b σ M1
 | .call f as=>λσ M=>(pes as σ M).bind λ(xs,M1)=>(P f (xs.map (·.1)) M1).nx
 | .blt f as=>λσ M=>(pes as σ M).bind λ(xs,M1)=>(tH (zG M1 f (xs.map (·.1)))).bind λr=>.ok (r,M1)
 | .isi a ts=>λσ M=>(pe a σ M).bind λ(x,M1)=>(tH (zX M1 x.1)).bind λt=>.ok (bT (ts.any (jI t)),M1)
 | .idx a b=>λσ M=>(pe a σ M).bind λ(x,M1)=>(pe b σ M1).bind λ(y,M2)=>(tH (zr M2 x.1 y.1)).bind λr=>.ok (r,M2)
 | .sl a lo hi=>λσ M=>(pe a σ M).bind λ(x,M1)=>(pes lo σ M1).bind λ(l,M2)=>(pes hi σ M2).bind λ(u,M3)=>
  (tH (x.1.its M3)).bind λxs=>(tH (zI (l.map (·.1)))).bind λl=>(tH (zI (u.map (·.1)))).bind λu=>(tH (qCX x.1 xs l.head? u.head?)).bind λr=>.ok (r,M3)
 | .lst as=>λσ M=>(pes as σ M).bind λ(xs,M1)=>if xs.length<=lim then .ok ((.lst (xs.map (·.1)),xs.all (·.2)),M1) else .stuck
 | .tup as=>λσ M=>(pes as σ M).bind λ(xs,M1)=>if xs.length<=lim then .ok ((.tup (xs.map (·.1)),xs.all (·.2)),M1) else .stuck
 | .comp it src g c e=>λσ M=>(pei it σ M).bind λ(s,M1)=>qI s.2 g (pec c) (pe e) s.1 [] true (jq src σ) M1
 | .app a b=>λσ M=>(pe a σ M).bind λ(x,M1)=>match x.1 with
  | .cell n=>(pe b σ M1).bind λ(y,M2)=>match M2[n]? with
   |some xs=>if xs.length<lim then .ok ((.v .non,true),M2.set n (xs++[y.1])) else .stuck
   |none=>.stuck
  |_=>.stuck
 | .lrng a=>λσ M=>(pe a σ M).bind λ(x,M1)=>match x.1 with | .v (.int j)=>if -1000000<=j/\j<=100000 then .ok ((.lst (zO 0 j.toNat),true),M1) else .stuck|_=>.stuck
 | .dnew=>λ_ M=>.ok ((.ob (.dct []),true),M)
 | .isx a cn ks=>λσ M=>(pe a σ M).bind λ(x,M1)=>(tH (qC7 cn x.1)).bind λc=>.ok (bT (ks.any (G8 c)),M1)
 | .meth m a as=>λσ M=>(pe a σ M).bind λ(x,M1)=>match x.1 with
  | .cell n=>(pes as σ M1).bind λ(ys,M2)=>tH (ZA m n (ys.map (·.1)) M2)
  |_=>.stuck
noncomputable def pes:Es->TS->Mem->PR (List TB×Mem)
 | .nil=>λ_ M=>.ok ([],M)
 | .cons a as=>λσ M=>(pe a σ M).bind λ(x,M1)=>(pes as σ M1).bind λ(xs,M2)=>.ok (x::xs,M2)
noncomputable def pec:Es->TS->Mem->PR (Bool×Mem)
 | .nil=>λ_ M=>.ok (true,M)
 | .cons a _=>λσ M=>pB (pe a σ M)
noncomputable def pei:Itr->TS->Mem->PR ((List T×jn)×Mem)
 | .list a=>λσ M=>(pe a σ M).bind λ(x,M1)=>(tH (Zi M1 x.1)).bind λs=>.ok (s,M1)
 | .rng1 a=>λσ M=>(pe a σ M).bind λ(x,M1)=>match x.1 with | .v (.int j)=>if -1000000<=j/\j<=1000000 then .ok ((zO 0 j.toNat,[]),M1) else .stuck|_=>.stuck
 | .zip a b=>λσ M=>(pe a σ M).bind λ(x,M1)=>(pe b σ M1).bind λ(y,M2)=>(tH (ZS M2 x.1)).bind λs=>(tH (ZS M2 y.1)).bind λt=>
  .ok ((List.zipWith (λa b=>T.tup [a,b]) s.1 t.1,s.2++t.2),M2)
 | .enum a=>λσ M=>(pe a σ M).bind λ(x,M1)=>(tH (ZS M1 x.1)).bind λs=>.ok ((QQ 0 s.1,s.2),M1)
 | .revd a=>λσ M=>(pe a σ M).bind λ(x,M1)=>(tH (ZS M1 x.1)).bind λs=>.ok ((s.1.reverse,s.2),M1)
end
inductive PO|nx(σ:TS)|rt(t:TB)|bk(σ:TS)|ct(σ:TS)
noncomputable abbrev RSt:=PR (PO×Mem)
noncomputable def zF(d:jn)(g:Tg)(b:TS->Mem->RSt):List T->TS->Mem->RSt
 | [],σ,M=>.ok (.nx σ,M)
 |x::r,σ,M=>match zL g x σ with
  |some σ1=>(b σ1 M).bind λ(o,M2)=>match o with
   | .nx σ2=>if qh d M2=true then zF d g b r σ2 M2 else .stuck
   | .ct σ2=>if qh d M2=true then zF d g b r σ2 M2 else .stuck
   | .bk σ2=>.ok (.nx σ2,M2)
   | .rt t=>.ok (.rt t,M2)
  |none=>.stuck
noncomputable def zR(c:TS->Mem->PR (Bool×Mem))(b:TS->Mem->RSt):Nat->TS->Mem->RSt
 | 0,_,_=>.stuck
 |n+1,σ,M=>(c σ M).bind λ(t,M1)=>if t then (b σ M1).bind λ(o,M2)=>match o with
   | .nx σ2=>zR c b n σ2 M2
   | .ct σ2=>zR c b n σ2 M2
   | .bk σ2=>.ok (.nx σ2,M2)
   | .rt t=>.ok (.rt t,M2)
  else .ok (.nx σ,M1)
mutual
noncomputable def thaw(n:Nat):T->T×Mem
 | .lst ts=>let r:=Qb n ts;(.cell (n+r.2.length),r.2++[r.1])
 | .tup ts=>let r:=Qb n ts;(.tup r.1,r.2)
 |t=>(t,[])
noncomputable def Qb(n:Nat):List T->List T×Mem
 | []=>([],[])
 |t::ts=>let r:=thaw n t;let q:=Qb (n+r.2.length) ts;(r.1::q.1,r.2++q.2)
end
noncomputable def qEn:E->Bool
 | .bin .add _ _=>true
 | .lst _=>true
 |_=>false
variable (C:List Nat)
mutual
noncomputable def px:S->TS->Mem->RSt
 | .asg g e=>λσ M=>(pe gl P e σ M).bind λ(x,M1)=>match g with
  | .name i=>if C.contains i&&x.2 then .ok (.nx (σ.set i (some (thaw M1.length x.1).1)),M1++(thaw M1.length x.1).2) else if C.contains (i+1000)&&qEn e then (match x.1 with | .lst ts=>.ok (.nx (σ.set i (some (.cell M1.length))),M1++[ts])|_=>.stuck) else .ok (.nx (σ.set i (some x.1)),M1)
  |g=>match zL g x.1 σ with|some σ1=>.ok (.nx σ1,M1)|none=>.stuck
 | .par i j a b=>λσ M=>(pe gl P a σ M).bind λ(x,M1)=>(pe gl P b σ M1).bind λ(y,M2)=>.ok (.nx ((σ.set i (some x.1)).set j (some y.1)),M2)
 | .put o i v=>λσ M=>(pe gl P v σ M).bind λ(x,M1)=>(pe gl P o σ M1).bind λ(p,M2)=>(pe gl P i σ M2).bind λ(k,M3)=>match p.1,k.1 with
  | .cell n,.v (.int k)=>match M3[n]? with
   |some xs=>match ixN xs.length k with|some j=>.ok (.nx σ,M3.set n (xs.set j x.1))|none=>.stuck
   |none=>.stuck
  |_,_=>.stuck
 | .expr e=>λσ M=>(pe gl P e σ M).bind λ(_,M1)=>.ok (.nx σ,M1)
 | .ret e=>λσ M=>(pe gl P e σ M).bind λ(x,M1)=>.ok (.rt x,M1)
 | .ifs c t u=>λσ M=>(pB (pe gl P c σ M)).bind λ(x,M1)=>if x then pxs t σ M1 else pxs u σ M1
 | .for_ g it b=>λσ M=>(pei gl P it σ M).bind λ(s,M1)=>zF s.2 g (pxs b) s.1 σ M1
 | .while_ c b=>λσ M=>zR (λσ M=>pB (pe gl P c σ M)) (pxs b) qAw σ M
 | .stop=>λ_ _=>.stuck
 | .xexpr f as=>λσ M=>(pes gl P as σ M).bind λ(xs,M1)=>(P f (xs.map (·.1)) M1).bind λ(_,M2)=>.ok (.nx σ,M2)
 | .raise c=>λ_ M=>.exc c M
 | .tryE b e i cn=>λσ M=>match px b σ M with
  | .exc c M1=>(match cn[c]? with|some x=>.ok (.nx ((σ.set i (some (.ob (.exn x)))).set e none),M1)|none=>.stuck)
  |r=>r
noncomputable def pxs:Ss->TS->Mem->RSt
 | .nil=>λσ M=>.ok (.nx σ,M)
 | .cons s r=>λσ M=>(px s σ M).bind λ(o,M1)=>match o with
  | .nx σ1=>pxs r σ1 M1
  |o=>.ok (o,M1)
end
end
noncomputable def qM(M:Mem)(n0:Nat):Nat->T->Option T
 | 0,t=>if t.und n0 then some t else none
 |d+1,t=>if t.und n0 then some t else match t with
  | .lst ts=>(ts.mapM (qM M n0 d)).map .lst
  | .tup ts=>(ts.mapM (qM M n0 d)).map .tup
  | .cell n=>(M[n]?).bind λts=>(ts.mapM (qM M n0 d)).map .lst
  |_=>none
noncomputable def jW(M:Mem)(n0:Nat):Nat->T->Option (List Nat)
 | 0,t=>if t.lf then some [] else none
 |d+1,t=>if t.lf then some [] else match t with
  | .tup ts=>(ts.mapM (jW M n0 d)).map List.flatten
  | .cell n=>if n0<=n then (M[n]?).bind λts=>(ts.mapM (jW M n0 d)).map λl=>l.flatten++[n] else none
  |_=>none
noncomputable def frR(M:Mem)(n0:Nat)(t:T):Bool:=match jW M n0 6 t with|some l=>decide l.Nodup|none=>false
noncomputable def finish(n0:Nat)(x:TB)(M:Mem):PR (TB×Mem):=
 if M.length=n0 then .ok (x,M) else if (M.take n0).all (T.unds n0) then (tH (qM M n0 6 x.1)).bind λt=>.ok ((t,x.2||frR M n0 x.1),M.take n0) else .stuck
noncomputable def QY(n0:Nat):RSt->PR (TB×Mem)
 | .ok (.nx _,M1)=>finish n0 (.v .non,true) M1
 | .ok (.rt t,M1)=>finish n0 t M1
 | .ok (_,_)=>.stuck
 | .exc c M1=>if M1.length=n0 then .exc c M1 else if (M1.take n0).all (T.unds n0) then .exc c (M1.take n0) else .stuck
 | .stuck=>.stuck
noncomputable def Pk(gl:List T)(tb:List Fn)(Cs:List (List Nat)):Nat->Nat->List T->Mem->PR (TB×Mem)
 | 0,_,_,_=>.stuck
 |k+1,f,vs,M=>match tb[f]? with
  |some d=>if vs.length=d.npar/\d.npar<=d.nslot then QY M.length (pxs gl (Pk gl tb Cs k) (Cs.getD f []) d.body (vs.map some++List.replicate (d.nslot-d.npar) none) M)
   else .stuck
  |none=>.stuck
def QV{α β:Type}(R:α->β->Prop):List α->List β->Prop
 | [],vs=>vs=[]
 |t::ts,vs=>∃v vs',vs=v::vs'/\R t v/\QV R ts vs'
section
variable{α β:Type}{R:α->β->Prop}
theorem qB:∀{xs:List α}{ys:List β},QV R xs ys->xs.length=ys.length
 | [],_,h=>by cases h;rfl
 |x::xs,_,⟨v,vs,rfl,_,h⟩=>by simp[qB h]
theorem zV:∀{xs:List α}{ys:List β}{i:Nat}{x:α},QV R xs ys->xs[i]?=some x->∃y,ys[i]?=some y/\R x y
 | [],_,i,x,h,e=>by simp at e
 |x::xs,_,0,x',⟨v,vs,rfl,r,h⟩,e=>⟨v,rfl,by simp at e;subst e;exact r⟩
 |x::xs,_,i+1,x',⟨v,vs,rfl,r,h⟩,e=>by
  obtain⟨y,e1,r1⟩:=zV (i:=i) h (by simpa using e);exact⟨y,by simpa using e1,r1⟩
theorem zi:∀{xs:List α}{ys:List β}{xs':List α}{ys':List β},QV R xs ys->QV R xs' ys'->QV R (xs++xs') (ys++ys')
 | [],_,_,_,h,k=>by cases h;exact k
 |x::xs,_,_,_,⟨v,vs,rfl,r,h⟩,k=>⟨v,vs++_,rfl,r,zi h k⟩
theorem jw:∀(n:Nat){xs:List α}{ys:List β},QV R xs ys->QV R (xs.take n) (ys.take n)
 | 0,_,_,_=>by simp[QV]
 |n+1,[],_,h=>by cases h;simp[QV]
 |n+1,x::xs,_,⟨v,vs,rfl,r,h⟩=>⟨v,vs.take n,rfl,r,jw n h⟩
theorem Jc:∀(n:Nat){xs:List α}{ys:List β},QV R xs ys->QV R (xs.drop n) (ys.drop n)
 | 0,_,_,h=>h
 |n+1,[],_,h=>by cases h;simp[QV]
 |n+1,x::xs,_,⟨v,vs,rfl,r,h⟩=>Jc n h
theorem zU:∀{xs:List α}{ys:List β}(j:Nat){x:α}{y:β},QV R xs ys->R x y->QV R (xs.set j x) (ys.set j y)
 | [],_,j,_,_,h,r=>by cases h;simp[QV]
 |x::xs,_,0,_,_,⟨v,vs,rfl,r0,h⟩,r=>⟨_,vs,rfl,r,h⟩
 |x::xs,_,j+1,_,_,⟨v,vs,rfl,r0,h⟩,r=>⟨v,vs.set j _,rfl,r0,zU j h r⟩
theorem qAB(n:Nat){xs:List α}{ys:List β}(h:QV R xs ys):QV R (List.replicate n xs).flatten (List.replicate n ys).flatten:=by
 induction n with
 |zero=>simp[QV]
 |succ n ih=>simp only[List.replicate_succ,List.flatten_cons];exact zi h ih
theorem Jf{S:α->β->Prop}(f:∀x y,R x y->S x y):∀{xs:List α}{ys:List β},QV R xs ys->QV S xs ys
 | [],_,h=>h
 |x::xs,_,⟨v,vs,rfl,r,h⟩=>⟨v,vs,rfl,f _ _ r,Jf f h⟩
end
mutual
def Rep(A X:List Nat)(h:AH):T->V->Prop
 | .v x,w=>w=x/\flat x=true
 | .cell n,w=>∃a:Nat,A[n]?=some a/\w=.ref a
 | .fz ts,w=>∃a vs,w=.ref a/\a∉X/\h[a]?=some (.lst true vs)/\qQ A X h ts vs
 | .lst ts,w=>∃a vs,w=.ref a/\a∉X/\h[a]?=some (.lst false vs)/\qQ A X h ts vs
 | .tup ts,w=>∃a vs,w=.ref a/\a∉X/\h[a]?=some (.tup vs)/\qQ A X h ts vs
 | .ob o,w=>∃a,w=.ref a/\a∉X/\h[a]?=some (.ob o)
def qQ(A X:List Nat)(h:AH):List T->List V->Prop
 | [],vs=>vs=[]
 |t::ts,vs=>∃v vs',vs=v::vs'/\Rep A X h t v/\qQ A X h ts vs'
end
theorem reps_iff{A X:List Nat}{h:AH}:∀{ts:List T}{vs:List V},qQ A X h ts vs↔QV (Rep A X h) ts vs
 | [],vs=>by unfold qQ QV;rfl
 |t::ts,vs=>by
  unfold qQ QV;constructor
  ·rintro⟨v,vs',e,r,k⟩;exact⟨v,vs',e,r,reps_iff.mp k⟩
  ·rintro⟨v,vs',e,r,k⟩;exact⟨v,vs',e,r,reps_iff.mpr k⟩
mutual
def FP(X:List Nat)(h:AH):T->V->List Nat->Prop
 | .v x,w,fp=>(w=x/\flat x=true)/\fp=[]
 | .lst ts,w,fp=>∃a vs f,w=.ref a/\a∉X/\h[a]?=some (.lst false vs)/\FPs X h ts vs f/\fp=f++[a]
 | .tup ts,w,fp=>∃a vs,w=.ref a/\a∉X/\h[a]?=some (.tup vs)/\FPs X h ts vs fp
 | .ob o,w,fp=>(∃a,w=.ref a/\a∉X/\h[a]?=some (.ob o))/\fp=[]
 | .fz _,_,_=>False
 | .cell _,_,_=>False
def FPs(X:List Nat)(h:AH):List T->List V->List Nat->Prop
 | [],vs,fp=>vs=[]/\fp=[]
 |t::ts,vs,fp=>∃v vs' f1 f2,vs=v::vs'/\FP X h t v f1/\FPs X h ts vs' f2/\fp=f1++f2
end
mutual
theorem zg{A X A' X':List Nat}{h h':AH}(hc:∀(n:Nat) a,A[n]?=some a->A'[n]?=some a)(hn:∀a o,a∉X->h[a]?=some o->a∉X'/\h'[a]?=some o):∀(t:T){w:V},Rep A X h t w->Rep A' X' h' t w
 | .v x,w,r=>by unfold Rep at r ⊢;exact r
 | .cell n,w,r=>by unfold Rep at r ⊢;obtain⟨a,e,q⟩:=r;exact⟨a,hc _ _ e,q⟩
 | .fz ts,w,r=>by unfold Rep at r ⊢;obtain⟨a,vs,e,q1,q2,q3⟩:=r;exact⟨a,vs,e,(hn _ _ q1 q2).1,(hn _ _ q1 q2).2,qT hc hn ts q3⟩
 | .lst ts,w,r=>by unfold Rep at r ⊢;obtain⟨a,vs,e,q1,q2,q3⟩:=r;exact⟨a,vs,e,(hn _ _ q1 q2).1,(hn _ _ q1 q2).2,qT hc hn ts q3⟩
 | .tup ts,w,r=>by unfold Rep at r ⊢;obtain⟨a,vs,e,q1,q2,q3⟩:=r;exact⟨a,vs,e,(hn _ _ q1 q2).1,(hn _ _ q1 q2).2,qT hc hn ts q3⟩
 | .ob o,w,r=>by unfold Rep at r ⊢;obtain⟨a,e,q1,q2⟩:=r;exact⟨a,e,(hn _ _ q1 q2).1,(hn _ _ q1 q2).2⟩
theorem qT{A X A' X':List Nat}{h h':AH}(hc:∀(n:Nat) a,A[n]?=some a->A'[n]?=some a)(hn:∀a o,a∉X->h[a]?=some o->a∉X'/\h'[a]?=some o):∀(ts:List T){ws:List V},qQ A X h ts ws->qQ A' X' h' ts ws
 | [],w,r=>by unfold qQ at r ⊢;exact r
 |t::ts,w,r=>by unfold qQ at r ⊢;obtain⟨v,vs,e,q1,q2⟩:=r;exact⟨v,vs,e,zg hc hn t q1,qT hc hn ts q2⟩
end
mutual
theorem Za{X X':List Nat}{h h':AH}(hn:∀a o,a∉X->h[a]?=some o->a∉X'/\h'[a]?=some o):∀(t:T){w:V}{fp:List Nat},FP X h t w fp->FP X' h' t w fp
 | .v x,w,_,r=>by unfold FP at r ⊢;exact r
 | .cell n,w,_,r=>by unfold FP at r;exact r.elim
 | .fz ts,w,_,r=>by unfold FP at r;exact r.elim
 | .lst ts,w,_,r=>by unfold FP at r ⊢;obtain⟨a,vs,f,e,q1,q2,q3,q4⟩:=r;exact⟨a,vs,f,e,(hn _ _ q1 q2).1,(hn _ _ q1 q2).2,zy hn ts q3,q4⟩
 | .tup ts,w,_,r=>by unfold FP at r ⊢;obtain⟨a,vs,e,q1,q2,q3⟩:=r;exact⟨a,vs,e,(hn _ _ q1 q2).1,(hn _ _ q1 q2).2,zy hn ts q3⟩
 | .ob o,w,_,r=>by unfold FP at r ⊢;obtain⟨⟨a,e,q1,q2⟩,q3⟩:=r;exact⟨⟨a,e,(hn _ _ q1 q2).1,(hn _ _ q1 q2).2⟩,q3⟩
theorem zy{X X':List Nat}{h h':AH}(hn:∀a o,a∉X->h[a]?=some o->a∉X'/\h'[a]?=some o):∀(ts:List T){ws:List V}{fp:List Nat},FPs X h ts ws fp->FPs X' h' ts ws fp
 | [],w,_,r=>by unfold FPs at r ⊢;exact r
 |t::ts,w,_,r=>by unfold FPs at r ⊢;obtain⟨v,vs,f1,f2,e,q1,q2,q3⟩:=r;exact⟨v,vs,f1,f2,e,Za hn t q1,zy hn ts q2,q3⟩
end
mutual
theorem qEZ{A X:List Nat}{h:AH}:∀(t:T){w:V}{fp:List Nat},FP X h t w fp->Rep A X h t w
 | .v x,w,_,r=>by unfold FP at r;unfold Rep;exact r.1
 | .cell n,w,_,r=>by unfold FP at r;exact r.elim
 | .fz ts,w,_,r=>by unfold FP at r;exact r.elim
 | .lst ts,w,_,r=>by unfold FP at r;unfold Rep;obtain⟨a,vs,f,e,q1,q2,q3,q4⟩:=r;exact⟨a,vs,e,q1,q2,D1 ts q3⟩
 | .tup ts,w,_,r=>by unfold FP at r;unfold Rep;obtain⟨a,vs,e,q1,q2,q3⟩:=r;exact⟨a,vs,e,q1,q2,D1 ts q3⟩
 | .ob o,w,_,r=>by unfold FP at r;unfold Rep;exact r.1
theorem D1{A X:List Nat}{h:AH}:∀(ts:List T){ws:List V}{fp:List Nat},FPs X h ts ws fp->qQ A X h ts ws
 | [],w,_,r=>by unfold FPs at r;unfold qQ;exact r.1
 |t::ts,w,_,r=>by unfold FPs at r;unfold qQ;obtain⟨v,vs,f1,f2,e,q1,q2,q3⟩:=r;exact⟨v,vs,e,qEZ t q1,D1 ts q2⟩
end
mutual
theorem qBU{X:List Nat}{h:AH}(n:Nat):∀(t:T){w:V}{fp:List Nat},FP X h t w fp->t.und n=true
 | .v x,w,_,r=>rfl
 | .cell n,w,_,r=>by unfold FP at r;exact r.elim
 | .fz ts,w,_,r=>by unfold FP at r;exact r.elim
 | .lst ts,w,_,r=>by unfold FP at r;obtain⟨a,vs,f,e,q1,q2,q3,q4⟩:=r;exact C7 n ts q3
 | .tup ts,w,_,r=>by unfold FP at r;obtain⟨a,vs,e,q1,q2,q3⟩:=r;exact C7 n ts q3
 | .ob o,w,_,r=>rfl
theorem C7{X:List Nat}{h:AH}(n:Nat):∀(ts:List T){ws:List V}{fp:List Nat},FPs X h ts ws fp->T.unds n ts=true
 | [],w,_,r=>rfl
 |t::ts,w,_,r=>by unfold FPs at r;obtain⟨v,vs,f1,f2,e,q1,q2,q3⟩:=r;unfold T.unds;rw[qBU n t q1,C7 n ts q2];rfl
end
mutual
theorem J8{X:List Nat}{h:AH}:∀(t:T){w:V}{fp:List Nat},FP X h t w fp->∀a∈fp,a∉X/\∃vs,h[a]?=some (.lst false vs)
 | .v x,w,_,r=>by unfold FP at r;obtain⟨_,rfl⟩:=r;intro a ha;simp at ha
 | .cell n,w,_,r=>by unfold FP at r;exact r.elim
 | .fz ts,w,_,r=>by unfold FP at r;exact r.elim
 | .lst ts,w,_,r=>by
  unfold FP at r;obtain⟨a,vs,f,e,q1,q2,q3,rfl⟩:=r;intro b hb;rcases wJ.mp hb with hb|hb
  ·exact QI ts q3 b hb
  ·simp at hb;subst hb;exact⟨q1,vs,q2⟩
 | .tup ts,w,_,r=>by unfold FP at r;obtain⟨a,vs,e,q1,q2,q3⟩:=r;exact QI ts q3
 | .ob o,w,_,r=>by unfold FP at r;obtain⟨_,rfl⟩:=r;intro a ha;simp at ha
theorem QI{X:List Nat}{h:AH}:∀(ts:List T){ws:List V}{fp:List Nat},FPs X h ts ws fp->∀a∈fp,a∉X/\∃vs,h[a]?=some (.lst false vs)
 | [],w,_,r=>by unfold FPs at r;obtain⟨_,rfl⟩:=r;intro a ha;simp at ha
 |t::ts,w,_,r=>by
  unfold FPs at r;obtain⟨v,vs,f1,f2,e,q1,q2,rfl⟩:=r;intro b hb;rcases wJ.mp hb with hb|hb
  ·exact J8 t q1 b hb
  ·exact QI ts q2 b hb
end
mutual
theorem qBs{A X:List Nat}{h:AH}:∀(t:T){w:V},Rep A X h t w->t.lf=true->FP X h t w []
 | .v x,w,r,l=>by unfold Rep at r;unfold FP;exact⟨r,rfl⟩
 | .cell n,w,r,l=>by unfold T.lf at l;cases l
 | .fz ts,w,r,l=>by unfold T.lf at l;cases l
 | .lst ts,w,r,l=>by unfold T.lf at l;cases l
 | .tup ts,w,r,l=>by unfold Rep at r;unfold FP;obtain⟨a,vs,e,q1,q2,q3⟩:=r;exact⟨a,vs,e,q1,q2,Z8 ts q3 (by unfold T.lf at l;exact l)⟩
 | .ob o,w,r,l=>by unfold Rep at r;unfold FP;exact⟨r,rfl⟩
theorem Z8{A X:List Nat}{h:AH}:∀(ts:List T){ws:List V},qQ A X h ts ws->T.lfs ts=true->FPs X h ts ws []
 | [],w,r,l=>by unfold qQ at r;unfold FPs;exact⟨r,rfl⟩
 |t::ts,w,r,l=>by
  unfold qQ at r;unfold FPs;obtain⟨v,vs,e,q1,q2⟩:=r;unfold T.lfs at l;simp only[wC]at l;exact⟨v,vs,[],[],e,qBs t q1 l.1,Z8 ts q2 l.2,rfl⟩
end
mutual
theorem W1{A X A1 X1:List Nat}{h:AH}{n0:Nat}(hc:∀n,n<n0->A1[n]?=A[n]?)(hX:∀a∈X,a∈X1):∀(t:T){w:V},Rep A1 X1 h t w->t.und n0=true->Rep A X h t w
 | .v x,w,r,u=>by unfold Rep at r ⊢;exact r
 | .cell n,w,r,u=>by
  unfold Rep at r ⊢;obtain⟨a,e,q⟩:=r;unfold T.und at u;exact⟨a,(hc n (by simpa using u)).symm.trans e,q⟩
 | .fz ts,w,r,u=>by unfold Rep at r ⊢;obtain⟨a,vs,e,q1,q2,q3⟩:=r;exact⟨a,vs,e,λz=>q1 (hX _ z),q2,jt hc hX ts q3 (by unfold T.und at u;exact u)⟩
 | .lst ts,w,r,u=>by unfold Rep at r ⊢;obtain⟨a,vs,e,q1,q2,q3⟩:=r;exact⟨a,vs,e,λz=>q1 (hX _ z),q2,jt hc hX ts q3 (by unfold T.und at u;exact u)⟩
 | .tup ts,w,r,u=>by unfold Rep at r ⊢;obtain⟨a,vs,e,q1,q2,q3⟩:=r;exact⟨a,vs,e,λz=>q1 (hX _ z),q2,jt hc hX ts q3 (by unfold T.und at u;exact u)⟩
 | .ob o,w,r,u=>by unfold Rep at r ⊢;obtain⟨a,e,q1,q2⟩:=r;exact⟨a,e,λz=>q1 (hX _ z),q2⟩
theorem jt{A X A1 X1:List Nat}{h:AH}{n0:Nat}(hc:∀n,n<n0->A1[n]?=A[n]?)(hX:∀a∈X,a∈X1):∀(ts:List T){ws:List V},qQ A1 X1 h ts ws->T.unds n0 ts=true->qQ A X h ts ws
 | [],w,r,u=>by unfold qQ at r ⊢;exact r
 |t::ts,w,r,u=>by
  unfold qQ at r ⊢;obtain⟨v,vs,e,q1,q2⟩:=r;unfold T.unds at u;simp only[wC]at u;exact⟨v,vs,e,W1 hc hX t q1 u.1,jt hc hX ts q2 u.2⟩
end
theorem jQ{x:V}{a:Nat}(h:flat x=true)(e:V.ref a=x):False:=by subst e;cases h
mutual
theorem f8{A X:List Nat}{h:AH}(nd:A.Nodup)(hs:∀a∈A,a∈X):∀(s t:T){w:V},Rep A X h s w->Rep A X h t w->s=t
 | .v x,t,w,r,q=>by
  unfold Rep at r;obtain⟨rfl,f⟩:=r;cases t with
  |v y=>unfold Rep at q;obtain⟨rfl,_⟩:=q;rfl
  |cell n=>unfold Rep at q;obtain⟨a,_,e⟩:=q;subst e;cases f
  |fz ts=>unfold Rep at q;obtain⟨a,vs,e,_⟩:=q;subst e;cases f
  |lst ts=>unfold Rep at q;obtain⟨a,vs,e,_⟩:=q;subst e;cases f
  |tup ts=>unfold Rep at q;obtain⟨a,vs,e,_⟩:=q;subst e;cases f
  |ob o=>unfold Rep at q;obtain⟨a,e,_⟩:=q;subst e;cases f
 | .cell n,t,w,r,q=>by
  unfold Rep at r;obtain⟨a,ea,rfl⟩:=r;have am:a∈X:=hs _ (wR ea);cases t with
  |v y=>unfold Rep at q;obtain⟨e,f⟩:=q;exact(jQ f e).elim
  |cell m=>
   unfold Rep at q;obtain⟨b,eb,e⟩:=q;cases e;have:n=m:=(vh (by exact(wB.mp ea).1) nd).mp (ea.trans eb.symm);rw[this]
  |fz ts=>unfold Rep at q;obtain⟨b,vs,e,k,_⟩:=q;cases e;exact(k am).elim
  |lst ts=>unfold Rep at q;obtain⟨b,vs,e,k,_⟩:=q;cases e;exact(k am).elim
  |tup ts=>unfold Rep at q;obtain⟨b,vs,e,k,_⟩:=q;cases e;exact(k am).elim
  |ob o=>unfold Rep at q;obtain⟨b,e,k,_⟩:=q;cases e;exact(k am).elim
 | .fz ss,t,w,r,q=>by
  unfold Rep at r;obtain⟨a,vs,rfl,k1,k2,k3⟩:=r;cases t with
  |v y=>unfold Rep at q;obtain⟨e,f⟩:=q;exact(jQ f e).elim
  |cell m=>unfold Rep at q;obtain⟨b,eb,e⟩:=q;cases e;exact(k1 (hs _ (wR eb))).elim
  |fz ts=>unfold Rep at q;obtain⟨b,vs',e,z1,z2,z3⟩:=q;cases e;rw[k2]at z2;cases z2;rw[Qm nd hs ss ts k3 z3]
  |lst ts=>unfold Rep at q;obtain⟨b,vs',e,z1,z2,z3⟩:=q;cases e;rw[k2]at z2;cases z2
  |tup ts=>unfold Rep at q;obtain⟨b,vs',e,z1,z2,z3⟩:=q;cases e;rw[k2]at z2;cases z2
  |ob o=>unfold Rep at q;obtain⟨b,e,z1,z2⟩:=q;cases e;rw[k2]at z2;cases z2
 | .lst ss,t,w,r,q=>by
  unfold Rep at r;obtain⟨a,vs,rfl,k1,k2,k3⟩:=r;cases t with
  |v y=>unfold Rep at q;obtain⟨e,f⟩:=q;exact(jQ f e).elim
  |cell m=>unfold Rep at q;obtain⟨b,eb,e⟩:=q;cases e;exact(k1 (hs _ (wR eb))).elim
  |lst ts=>unfold Rep at q;obtain⟨b,vs',e,z1,z2,z3⟩:=q;cases e;rw[k2]at z2;cases z2;rw[Qm nd hs ss ts k3 z3]
  |fz ts=>unfold Rep at q;obtain⟨b,vs',e,z1,z2,z3⟩:=q;cases e;rw[k2]at z2;cases z2
  |tup ts=>unfold Rep at q;obtain⟨b,vs',e,z1,z2,z3⟩:=q;cases e;rw[k2]at z2;cases z2
  |ob o=>unfold Rep at q;obtain⟨b,e,z1,z2⟩:=q;cases e;rw[k2]at z2;cases z2
 | .tup ss,t,w,r,q=>by
  unfold Rep at r;obtain⟨a,vs,rfl,k1,k2,k3⟩:=r;cases t with
  |v y=>unfold Rep at q;obtain⟨e,f⟩:=q;exact(jQ f e).elim
  |cell m=>unfold Rep at q;obtain⟨b,eb,e⟩:=q;cases e;exact(k1 (hs _ (wR eb))).elim
  |tup ts=>unfold Rep at q;obtain⟨b,vs',e,z1,z2,z3⟩:=q;cases e;rw[k2]at z2;cases z2;rw[Qm nd hs ss ts k3 z3]
  |fz ts=>unfold Rep at q;obtain⟨b,vs',e,z1,z2,z3⟩:=q;cases e;rw[k2]at z2;cases z2
  |lst ts=>unfold Rep at q;obtain⟨b,vs',e,z1,z2,z3⟩:=q;cases e;rw[k2]at z2;cases z2
  |ob o=>unfold Rep at q;obtain⟨b,e,z1,z2⟩:=q;cases e;rw[k2]at z2;cases z2
 | .ob o,t,w,r,q=>by
  unfold Rep at r;obtain⟨a,rfl,k1,k2⟩:=r;cases t with
  |v y=>unfold Rep at q;obtain⟨e,f⟩:=q;exact(jQ f e).elim
  |cell m=>unfold Rep at q;obtain⟨b,eb,e⟩:=q;cases e;exact(k1 (hs _ (wR eb))).elim
  |fz ts=>unfold Rep at q;obtain⟨b,vs',e,z1,z2,z3⟩:=q;cases e;rw[k2]at z2;cases z2
  |lst ts=>unfold Rep at q;obtain⟨b,vs',e,z1,z2,z3⟩:=q;cases e;rw[k2]at z2;cases z2
  |tup ts=>unfold Rep at q;obtain⟨b,vs',e,z1,z2,z3⟩:=q;cases e;rw[k2]at z2;cases z2
  |ob o'=>unfold Rep at q;obtain⟨b,e,z1,z2⟩:=q;cases e;rw[k2]at z2;cases z2;rfl
theorem Qm{A X:List Nat}{h:AH}(nd:A.Nodup)(hs:∀a∈A,a∈X):∀(ss ts:List T){ws:List V},qQ A X h ss ws->qQ A X h ts ws->ss=ts
 | [],[],w,r,q=>rfl
 | [],t::ts,w,r,q=>by unfold qQ at r q;obtain⟨v,vs,e,_⟩:=q;subst r;cases e
 |s::ss,[],w,r,q=>by unfold qQ at r q;obtain⟨v,vs,e,_⟩:=r;subst q;cases e
 |s::ss,t::ts,w,r,q=>by
  unfold qQ at r q;obtain⟨v,vs,rfl,k1,k2⟩:=r;obtain⟨v',vs',e,z1,z2⟩:=q;cases e;rw[f8 nd hs s t k1 z1,Qm nd hs ss ts k2 z2]
end
mutual
theorem qFC:∀(s t:T),T.beq s t=true->s=t
 | .v x,.v y,h=>by unfold T.beq at h;simp at h;rw[h]
 | .cell x,.cell y,h=>by unfold T.beq at h;simp at h;rw[h]
 | .fz x,.fz y,h=>by unfold T.beq at h;rw[QS x y h]
 | .lst x,.lst y,h=>by unfold T.beq at h;rw[QS x y h]
 | .tup x,.tup y,h=>by unfold T.beq at h;rw[QS x y h]
 | .ob x,.ob y,h=>by unfold T.beq at h;simp at h;rw[h]
 | .ob _,.v _,h | .ob _,.cell _,h | .ob _,.fz _,h | .ob _,.lst _,h | .ob _,.tup _,h=>by simp[T.beq]at h
 | .v _,.ob _,h | .cell _,.ob _,h | .fz _,.ob _,h | .lst _,.ob _,h | .tup _,.ob _,h=>by simp[T.beq]at h
 | .v _,.cell _,h | .v _,.fz _,h | .v _,.lst _,h | .v _,.tup _,h=>by simp[T.beq]at h
 | .cell _,.v _,h | .cell _,.fz _,h | .cell _,.lst _,h | .cell _,.tup _,h=>by simp[T.beq]at h
 | .fz _,.v _,h | .fz _,.cell _,h | .fz _,.lst _,h | .fz _,.tup _,h=>by simp[T.beq]at h
 | .lst _,.v _,h | .lst _,.cell _,h | .lst _,.fz _,h | .lst _,.tup _,h=>by simp[T.beq]at h
 | .tup _,.v _,h | .tup _,.cell _,h | .tup _,.fz _,h | .tup _,.lst _,h=>by simp[T.beq]at h
theorem QS:∀(ss ts:List T),T.beqs ss ts=true->ss=ts
 | [],[],h=>rfl
 | [],_::_,h=>by simp[T.beqs]at h
 |_::_,[],h=>by simp[T.beqs]at h
 |s::ss,t::ts,h=>by unfold T.beqs at h;simp only[wC]at h;rw[qFC s t h.1,QS ss ts h.2]
end
def Frm(A:List Nat)(h h':AH):Prop:=h.length<=h'.length/\∀j,j<h.length->j∉A->h'[j]?=h[j]?
theorem Frm.refl(A:List Nat)(h:AH):Frm A h h:=⟨wF _,λ_ _ _=>rfl⟩
theorem Frm.trans{A:List Nat}{a b c:AH}(x:Frm A a b)(y:Frm A b c):Frm A a c:=⟨wG x.1 y.1,λj hj hA=>(y.2 j (wH hj x.1) hA).trans (x.2 j hj hA)⟩
theorem Frm.trans2{A B:List Nat}{a b c:AH}(x:Frm A a b)(hB:∀k∈B,a.length<=k)(y:Frm (A++B) b c):Frm A a c:=
 ⟨wG x.1 y.1,λj hj hA=>(y.2 j (wH hj x.1) (by rw[wJ];rintro(z|z);exact hA z;have:=hB _ z;omega)).trans (x.2 j hj hA)⟩
theorem Frm.app(A:List Nat)(h e:AH):Frm A h (h++e):=⟨by simp,λj hj _=>by rw[wD hj]⟩
theorem Frm.set{A:List Nat}{h h':AH}(f:Frm A h h'){a:Nat}(ha:a∈A\/h.length<=a)(o:O):Frm A h (h'.set a o):=⟨by simpa using f.1,λj hj hA=>by
 rw[wW (by rintro rfl;rcases ha with z|z;exact hA z;omega)];exact f.2 j hj hA⟩
theorem qP{h:AH}{a:Nat}{o:O}(e:h[a]?=some o):a<h.length:=(wB.mp e).1
structure RelM(gl:List T)(A X:List Nat)(h:AH)(M:Mem):Prop where
 len:A.length=M.length
 nd:A.Nodup
 sub:∀a∈A,a∈X
 lt:∀a∈X,a<h.length
 at_:∀(n:Nat) a,A[n]?=some a->∃ts vs,M[n]?=some ts/\h[a]?=some (.lst false vs)/\qQ A X h ts vs
 glo:∀(g:Nat) t,gl[g]?=some t->Rep A X h t (.ref g)
section
variable{gl:List T}{A X:List Nat}{h h':AH}{M:Mem}
theorem RelM.keepN(R:RelM gl A X h M)(f:Frm A h h'):∀a o,a∉X->h[a]?=some o->a∉X/\h'[a]?=some o:=λa o hx e=>⟨hx,(f.2 a (qP e) λz=>hx (R.sub _ z)).trans e⟩
theorem RelM.keep(R:RelM gl A X h M)(f:Frm A h h'){t:T}{w:V}(r:Rep A X h t w):Rep A X h' t w:=zg (λ_ _ e=>e) (R.keepN f) t r
theorem RelM.keeps(R:RelM gl A X h M)(f:Frm A h h'){t:List T}{w:List V}(r:qQ A X h t w):qQ A X h' t w:=qT (λ_ _ e=>e) (R.keepN f) t r
theorem RelM.up(R:RelM gl A X h M)(e:AH):RelM gl A X (h++e) M:=by
 have f:Frm A h (h++e):=Frm.app A h e;refine⟨R.len,R.nd,R.sub,λa ha=>wH (R.lt a ha) f.1,λn a ea=>?_,λg t eg=>R.keep f (R.glo g t eg)⟩;obtain⟨ts,vs,e1,e2,e3⟩:=R.at_ n a ea;exact⟨ts,vs,e1,by rw[wD (qP e2)];exact e2,R.keeps f e3⟩
theorem RelM.put(R:RelM gl A X h M){n a:Nat}(ea:A[n]?=some a){ts:List T}{vs:List V}(r:qQ A X h ts vs):RelM gl A X (h.set a (.lst false vs)) (M.set n ts)/\Frm A h (h.set a (.lst false vs)):=by
 have am:a∈A:=wR ea;have f:Frm A h (h.set a (.lst false vs)):=(Frm.refl A h).set (.inl am) _;have al:a<h.length:=R.lt a (R.sub a am);refine⟨⟨by simpa using R.len,R.nd,R.sub,λb hb=>by simpa using R.lt b hb,λm b eb=>?_,λg t eg=>R.keep f (R.glo g t eg)⟩,f⟩;by_cases hm:n=m
 ·subst hm;rw[ea]at eb;cases eb;have nl:n<M.length:=by rw[<-R.len];exact(wB.mp ea).1
  exact⟨ts,vs,by rw[wn nl],by rw[wn al],R.keeps f r⟩
 ·obtain⟨ts',vs',e1,e2,e3⟩:=R.at_ m b eb;have hab:a≠b:=by
   rintro rfl;exact hm ((vh (wB.mp ea).1 R.nd).mp (ea.trans eb.symm))
  exact⟨ts',vs',by rw[wW hm];exact e1,by rw[wW hab];exact e2,R.keeps f e3⟩
end
def New(gl:List T)(A X:List Nat)(n:Nat)(h:AH)(M:Mem)(t:T)(w:V):Prop:=∀kvs,t=.ob (.dct kvs)->∃a,w=.ref a/\n<=a/\RelM gl A (X++[a]) h M
theorem New.of_lf{gl:List T}{A X:List Nat}{n:Nat}{h:AH}{M:Mem}{t:T}{w:V}(l:t.lf=true):New gl A X n h M t w:=λkvs e=>by subst e;cases l
theorem New.lst{gl:List T}{A X:List Nat}{n:Nat}{h:AH}{M:Mem}{ts:List T}{w:V}:New gl A X n h M (.lst ts) w:=λkvs e=>by cases e
theorem New.tup{gl:List T}{A X:List Nat}{n:Nat}{h:AH}{M:Mem}{ts:List T}{w:V}:New gl A X n h M (.tup ts) w:=λkvs e=>by cases e
def Frs(gl:List T)(A X:List Nat)(n:Nat)(h:AH)(M:Mem)(t:T)(w:V):Prop:=∃fp,FP X h t w fp/\fp.Nodup/\(∀a∈fp,n<=a)/\RelM gl A (X++fp) h M/\New gl A X n h M t w
def Frss(gl:List T)(A X:List Nat)(n:Nat)(h:AH)(M:Mem)(t:List T)(w:List V):Prop:=∃fp,FPs X h t w fp/\fp.Nodup/\(∀a∈fp,n<=a)/\RelM gl A (X++fp) h M
theorem Frs.of_lf{gl:List T}{A X:List Nat}{n:Nat}{h:AH}{M:Mem}{t:T}{w:V}(R:RelM gl A X h M)(r:Rep A X h t w)(l:t.lf=true):Frs gl A X n h M t w:=⟨[],qBs t r l,vi,λa ha=>by simp at ha,by rw[wO];exact R,New.of_lf l⟩
theorem Frss.of_lf{gl:List T}{A X:List Nat}{n:Nat}{h:AH}{M:Mem}{t:List T}{w:List V}(R:RelM gl A X h M)(r:qQ A X h t w)(l:T.lfs t=true):Frss gl A X n h M t w:=⟨[],Z8 t r l,vi,λa ha=>by simp at ha,by rw[wO];exact R⟩
def Sim{α β:Type}(gl:List T)(A X:List Nat)(h:AH)(Q:α->β->AH->Mem->Prop):PR (α×Mem)->Res (β×AH)->Prop
 | .ok (x,M'),r=>∃y h',r=.ok (y,h')/\Frm A h h'/\RelM gl A X h' M'/\Q x y h' M'
 | .exc c M',r=>∃h',r=.exc c h'/\Frm A h h'/\RelM gl A X h' M'
 | .stuck,_=>True
theorem Sim.bind{α β α2 β2:Type}{gl:List T}{A X:List Nat}{h:AH}{Q:α->β->AH->Mem->Prop}{Q2:α2->β2->AH->Mem->Prop}{r:PR (α×Mem)}{rh:Res (β×AH)}{f:α×Mem->PR (α2×Mem)}{g:β×AH->Res (β2×AH)}
  (s:Sim gl A X h Q r rh) (k:∀x M' y h',Frm A h h'->RelM gl A X h' M'->Q x y h' M'->Sim gl A X h' Q2 (f (x,M')) (g (y,h'))):Sim gl A X h Q2 (r.bind f) (rh.bind g):=by
 cases r with
 |ok p=>
  obtain⟨x,M'⟩:=p;obtain⟨y,h',rfl,f1,R1,q⟩:=s;have:=k x M' y h' f1 R1 q;rw[tD,tF];revert this;generalize f (x,M')=r2;generalize g (y,h')=rh2;intro s2;cases r2 with
  |ok p2=>
   obtain⟨x2,M2⟩:=p2;obtain⟨y2,h2,e2,f2,R2,q2⟩:=s2;exact⟨y2,h2,e2,f1.trans f2,R2,q2⟩
  |exc c M2=>
   obtain⟨h2,e2,f2,R2⟩:=s2;exact⟨h2,e2,f1.trans f2,R2⟩
  |stuck=>trivial
 |exc c M'=>
  obtain⟨h',rfl,f1,R1⟩:=s;exact⟨h',rfl,f1,R1⟩
 |stuck=>trivial
theorem Sim.nx{α β:Type}{gl:List T}{A X:List Nat}{h:AH}{Q:α->β->AH->Mem->Prop}{r:PR (α×Mem)}{rh:Res (β×AH)}(s:Sim gl A X h Q r rh):Sim gl A X h Q r.nx rh.nx:=by
 cases r with
 |ok p=>obtain⟨x,M'⟩:=p;obtain⟨y,h',rfl,a,b,c⟩:=s;exact⟨y,h',rfl,a,b,c⟩
 |exc c M'=>trivial
 |stuck=>trivial
theorem Sim.stuck{α β:Type}{gl:List T}{A X:List Nat}{h:AH}{Q:α->β->AH->Mem->Prop}{r:Res (β×AH)}:Sim gl A X h Q (.stuck:PR (α×Mem)) r:=trivial
theorem tJ{α β α2:Type}{gl:List T}{A X:List Nat}{h:AH}{Q:α->β->AH->Mem->Prop}{o:Option α2}{f:α2->PR (α×Mem)}{r:Res (β×AH)}(k:∀x,o=some x->Sim gl A X h Q (f x) r):Sim gl A X h Q ((tH o).bind f) r:=by
 cases o with
 |none=>trivial
 |some x=>exact k x rfl
def QE(gl:List T)(A X:List Nat)(n:Nat):TB->V->AH->Mem->Prop:=λx w h M=>Rep A X h x.1 w/\(x.2=true->Frs gl A X n h M x.1 w)
def QEs(gl:List T)(A X:List Nat)(n:Nat):List TB->List V->AH->Mem->Prop:=λx w h M=>qQ A X h (x.map (·.1)) w/\(x.all (·.2)=true->Frss gl A X n h M (x.map (·.1)) w)
theorem QE.le{gl:List T}{A X:List Nat}{n m:Nat}{x:TB}{w:V}{h:AH}{M:Mem}(q:QE gl A X n x w h M)(l:m<=n):QE gl A X m x w h M:=⟨q.1,λe=>by obtain⟨fp,a,b,c,d,nw⟩:=q.2 e;exact⟨fp,a,b,λz hz=>wG l (c z hz),d,λkvs e=>by obtain⟨z,q1,q2,q3⟩:=nw kvs e;exact⟨z,q1,wG l q2,q3⟩⟩⟩
theorem Sim.le{gl:List T}{A X:List Nat}{h:AH}{n m:Nat}{r:PR (TB×Mem)}{rh:RV}(s:Sim gl A X h (QE gl A X n) r rh)(l:m<=n):Sim gl A X h (QE gl A X m) r rh:=by
 cases r with
 |ok p=>obtain⟨y,h',e,f,R,q⟩:=s;exact⟨y,h',e,f,R,q.le l⟩
 |exc c M=>exact s
 |stuck=>trivial
theorem RelM.weak{gl:List T}{A X X':List Nat}{h:AH}{M:Mem}(R:RelM gl A X' h M)(hX:∀a∈X,a∈X')(hA:∀a∈A,a∈X):RelM gl A X h M:=by
 have hn:∀a o,a∉X'->h[a]?=some o->a∉X/\h[a]?=some o:=λa o x y=>⟨λz=>x (hX _ z),y⟩
 refine⟨R.len,R.nd,hA,λa ha=>R.lt a (hX a ha),λn a e=>?_,λg t e=>zg (λ_ _ e=>e) hn t (R.glo g t e)⟩;obtain⟨ts,vs,e1,e2,e3⟩:=R.at_ n a e;exact⟨ts,vs,e1,e2,qT (λ_ _ e=>e) hn ts e3⟩
theorem RelM.addX{gl:List T}{A X X':List Nat}{h:AH}{M:Mem}(R:RelM gl A X h M){o:O}(h1:∀a,a∈X'↔a=h.length\/a∈X):RelM gl A X' (h++[o]) M:=by
 have hn:∀a o',a∉X->h[a]?=some o'->a∉X'/\(h++[o])[a]?=some o':=λa o' x y=>⟨by
  rw[h1];rintro(z|z)
  ·have:=qP y;omega
  ·exact x z,by rw[wD (qP y)];exact y⟩
 refine⟨R.len,R.nd,λa ha=>(h1 a).mpr (.inr (R.sub a ha)),λa ha=>?_,λn a e=>?_,λg t e=>zg (λ_ _ e=>e) hn t (R.glo g t e)⟩
 ·rcases(h1 a).mp ha with z|z
  ·simp[z]
  ·have:=R.lt a z;simp;omega
 ·obtain⟨ts,vs,e1,e2,e3⟩:=R.at_ n a e;exact⟨ts,vs,e1,by rw[wD (qP e2)];exact e2,qT (λ_ _ e=>e) hn ts e3⟩
section
variable{gl:List T}{A X:List Nat}{h:AH}{M:Mem}
theorem K5(R:RelM gl A X h M){t:T}{w:V}{ts:List T}(r:Rep A X h t w)(e:t.its M=some ts):∃a vs,w=.ref a/\items h a=some vs/\qQ A X h ts vs:=by
 cases t with
 |v x=>cases e
 |cell n=>
  unfold Rep at r;obtain⟨a,ea,rfl⟩:=r;obtain⟨ts',vs,e1,e2,e3⟩:=R.at_ n a ea;have:M[n]?=some ts:=e;rw[e1]at this;cases this;exact⟨a,vs,rfl,by unfold items;rw[e2],e3⟩
 |fz xs=>unfold Rep at r;obtain⟨a,vs,rfl,_,q,k⟩:=r;cases e;exact⟨a,vs,rfl,by unfold items;rw[q],k⟩
 |lst xs=>unfold Rep at r;obtain⟨a,vs,rfl,_,q,k⟩:=r;cases e;exact⟨a,vs,rfl,by unfold items;rw[q],k⟩
 |tup xs=>unfold Rep at r;obtain⟨a,vs,rfl,_,q,k⟩:=r;cases e;exact⟨a,vs,rfl,by unfold items;rw[q],k⟩
 |ob o=>cases e
theorem jG(R:RelM gl A X h M){t:T}{w:V}{ts:List T}(r:Rep A X h t w)(e:t.lis M=some ts):∃a vs f,w=.ref a/\h[a]?=some (.lst f vs)/\qQ A X h ts vs:=by
 cases t with
 |v x=>cases e
 |cell n=>
  unfold Rep at r;obtain⟨a,ea,rfl⟩:=r;obtain⟨ts',vs,e1,e2,e3⟩:=R.at_ n a ea;have:M[n]?=some ts:=e;rw[e1]at this;cases this;exact⟨a,vs,false,rfl,e2,e3⟩
 |fz xs=>unfold Rep at r;obtain⟨a,vs,rfl,_,q,k⟩:=r;cases e;exact⟨a,vs,true,rfl,q,k⟩
 |lst xs=>unfold Rep at r;obtain⟨a,vs,rfl,_,q,k⟩:=r;cases e;exact⟨a,vs,false,rfl,q,k⟩
 |tup xs=>cases e
 |ob o=>cases e
theorem P7(R:RelM gl A X h M){t:T}{w:V}{ts:List T}(r:Rep A X h t w)(e:t.mu M=some ts):∃a vs,w=.ref a/\zM h a=some vs/\qQ A X h ts vs:=by
 cases t with
 |v x=>cases e
 |cell n=>
  unfold Rep at r;obtain⟨a,ea,rfl⟩:=r;obtain⟨ts',vs,e1,e2,e3⟩:=R.at_ n a ea;have:M[n]?=some ts:=e;rw[e1]at this;cases this;exact⟨a,vs,rfl,by unfold zM;rw[e2],e3⟩
 |fz xs=>cases e
 |lst xs=>unfold Rep at r;obtain⟨a,vs,rfl,_,q,k⟩:=r;cases e;exact⟨a,vs,rfl,by unfold zM;rw[q],k⟩
 |tup xs=>cases e
 |ob o=>cases e
theorem qi{t:T}{x:V}(e:t.isV=some x):t=.v x:=by cases t<;>cases e;rfl
theorem jv{t:T}{w:V}(e:t.isV=none)(r:Rep A X h t w):∃a:Nat,w=.ref a:=by
 cases t with
 |v x=>cases e
 |cell n=>unfold Rep at r;obtain⟨a,_,e⟩:=r;exact⟨a,e⟩
 |fz xs=>unfold Rep at r;obtain⟨a,vs,e,_⟩:=r;exact⟨a,e⟩
 |lst xs=>unfold Rep at r;obtain⟨a,vs,e,_⟩:=r;exact⟨a,e⟩
 |tup xs=>unfold Rep at r;obtain⟨a,vs,e,_⟩:=r;exact⟨a,e⟩
 |ob o=>unfold Rep at r;obtain⟨a,e,_⟩:=r;exact⟨a,e⟩
theorem Zu(R:RelM gl A X h M){ts:List T}{vs:List V}{n:Nat}{f:Bool}(r:qQ A X h ts vs)(hn:n<=h.length)(hf:f=true->Frss gl A X n h M ts vs):Sim gl A X h (QE gl A X n) (.ok ((.lst ts,f),M)) (newL vs h):=by
 have fm:Frm A h (h++[O.lst false vs]):=Frm.app A h _;have hx:h.length∉X:=λz=>wl _ (R.lt _ z);have ha:(h++[O.lst false vs])[h.length]?=some (.lst false vs):=by simp
 refine⟨.ref h.length,_,rfl,fm,R.up _,?_,λe=>?_⟩
 ·show Rep A X _ (.lst ts) _;unfold Rep;exact⟨_,vs,rfl,hx,ha,R.keeps fm r⟩
 ·obtain⟨fp,p,nd,l,R'⟩:=hf e;refine⟨fp++[h.length],?_,?_,?_,R'.addX λa=>by simp only[wJ,wo];grind,New.lst⟩
  ·show FP X _ (.lst ts) _ _;unfold FP;exact⟨_,vs,fp,rfl,hx,ha,zy (R.keepN fm) ts p,rfl⟩
  ·rw[wp];refine⟨nd,by simp,?_⟩;rintro a ha b hb rfl;obtain⟨_,vs',q⟩:=QI ts p a ha;simp at hb;have:=qP q;omega
  ·intro a ha;rcases wJ.mp ha with z|z
   ·exact l a z
   ·simp at z;omega
theorem D4(R:RelM gl A X h M){ts:List T}{vs:List V}{n:Nat}{f:Bool}(r:qQ A X h ts vs)(hf:f=true->Frss gl A X n h M ts vs):Sim gl A X h (QE gl A X n) (.ok ((.tup ts,f),M)) (newT vs h):=by
 have fm:Frm A h (h++[O.tup vs]):=Frm.app A h _;have hx:h.length∉X:=λz=>wl _ (R.lt _ z);have ha:(h++[O.tup vs])[h.length]?=some (.tup vs):=by simp
 refine⟨.ref h.length,_,rfl,fm,R.up _,?_,λe=>?_⟩
 ·show Rep A X _ (.tup ts) _;unfold Rep;exact⟨_,vs,rfl,hx,ha,R.keeps fm r⟩
 ·obtain⟨fp,p,nd,l,R'⟩:=hf e;refine⟨fp,?_,nd,l,R'.up _,New.tup⟩;show FP X _ (.tup ts) _ _;unfold FP;exact⟨_,vs,rfl,hx,ha,zy (R.keepN fm) ts p⟩
theorem P3(R:RelM gl A X h M){ts:List T}{vs:List V}(r:qQ A X h ts vs):Sim gl A X h (QE gl A X h.length) (.ok (lT ts,M)) (newL vs h):=
 Zu R r (wF _) λe=>Frss.of_lf R r e
theorem qF(R:RelM gl A X h M){x:V}(fx:flat x=true){n:Nat}:Sim gl A X h (QE gl A X n) (.ok ((.v x,true),M)) (.ok (x,h)):=
 have r:Rep A X h (.v x) x:=by unfold Rep;exact⟨rfl,fx⟩
 ⟨x,h,rfl,Frm.refl A h,R,r,λ_=>Frs.of_lf R r rfl⟩
theorem zf{x w:V}(r:Rep A X h (.v x) w):w=x:=by unfold Rep at r;exact r.1
theorem qCM(xs:List T):T.lf (.tup xs)=T.lfs xs:=by rw[T.lf]
theorem qBy(R:RelM gl A X h M){op:BOp}{s t:T}{x y:V}{r:TB}(e:qq M op s t=some r)(r1:Rep A X h s x)(r2:Rep A X h t y):Sim gl A X h (QE gl A X h.length) (.ok (r,M)) (qCR op x y h):=by
 unfold qq at e;split at e
 ·rename_i i j e1 e2;cases qi e1;cases qi e2;cases zf r1;cases zf r2;cases op with
  |add=>cases e;exact qF R rfl
  |sub=>cases e;exact qF R rfl
  |mul=>dsimp only at e;split at e<;>cases e;rename_i c;show Sim _ _ _ _ _ _ (if _ then _ else _);rw[if_pos c];exact qF R rfl
  |fdiv=>
   dsimp only at e;show Sim _ _ _ _ _ _ (if _ then _ else _);split at e
   ·rename_i c;cases e;rw[if_pos c];exact qF R rfl
   ·rename_i c;rw[if_neg c];split at e
    ·rename_i c;cases e;rw[if_pos c];exact qF R rfl
    ·cases e
  |mod=>
   dsimp only at e;show Sim _ _ _ _ _ _ (if _ then _ else _);split at e
   ·rename_i c;cases e;rw[if_pos c];exact qF R rfl
   ·rename_i c;rw[if_neg c];split at e
    ·rename_i c;cases e;rw[if_pos c];exact qF R rfl
    ·cases e
  |pow=>dsimp only at e;split at e<;>cases e;rename_i c;show Sim _ _ _ _ _ _ (if _ then _ else _);rw[if_pos c];exact qF R rfl
  |band=>cases e;exact qF R rfl
  |shl=>dsimp only at e;split at e<;>cases e;rename_i c;show Sim _ _ _ _ _ _ (if _ then _ else _);rw[if_pos c];exact qF R rfl
 ·rename_i k e1 e2;cases qi e2;cases zf r2;obtain⟨a,rfl⟩:=jv e1 r1;cases op<;>first|cases e|skip
  dsimp only at e;cases em:s.mu M with
  |none=>rw[em]at e;cases e
  |some xs=>
   rw[em]at e;dsimp only[Option.bind_some]at e;split at e<;>cases e;rename_i c;obtain⟨a',vs,ea,m,rs⟩:=P7 R r1 em;cases ea;have lv:vs.length=xs.length:=(qB (reps_iff.mp rs)).symm;show Sim _ _ _ _ _ _ (match zM h a with|some xs=>_|none=>_);rw[m];dsimp only;rw[if_pos (by rw[lv];exact c)];exact P3 R (reps_iff.mpr (qAB _ (reps_iff.mp rs)))
 ·rename_i e1 e2;obtain⟨a,rfl⟩:=jv e1 r1;obtain⟨b,rfl⟩:=jv e2 r2;cases op<;>first|cases e|skip
  dsimp only at e;split at e
  ·rename_i xs ys;split at e<;>cases e;rename_i c;unfold Rep at r1 r2;obtain⟨a1,vs,ea,n1,k1,q1⟩:=r1;cases ea;obtain⟨b1,us,eb,n2,k2,q2⟩:=r2;cases eb;have lv:vs.length=xs.length:=(qB (reps_iff.mp q1)).symm;have lu:us.length=ys.length:=(qB (reps_iff.mp q2)).symm;have m1:zM h a=none:=by unfold zM;rw[k1]
   have t1:qg h a=some vs:=by unfold qg;rw[k1]
   have t2:qg h b=some us:=by unfold qg;rw[k2]
   have q3:=reps_iff.mpr (zi (reps_iff.mp q1) (reps_iff.mp q2));show Sim _ _ _ _ _ _ (match zM h a,zM h b with|some xs,some ys=>_|_,_=>_);rw[m1];show Sim _ _ _ _ _ _ (match qg h a,qg h b with|some xs,some ys=>_|_,_=>_);rw[t1,t2];dsimp only;rw[if_pos ⟨λz=>c.1 (by subst z;exact wb.mp lv.symm),by rw[lv,lu];exact c.2⟩];split
   ·rename_i z;subst z;have y0:ys=[]:=wb.mp lu.symm;subst y0;have r:Rep A X h (.tup (xs++[])) (.ref a):=by
     rw[wO];unfold Rep;exact⟨a,vs,rfl,n1,k1,q1⟩
    exact⟨_,h,rfl,Frm.refl A h,R,r,λe=>Frs.of_lf R r (by rw[qCM];exact e)⟩
   ·exact D4 R q3 λe=>Frss.of_lf R q3 e
  cases em:s.mu M with
  |none=>rw[em]at e;cases e
  |some xs=>
   rw[em]at e;dsimp only[Option.bind_some]at e;cases en:t.mu M with
   |none=>rw[en]at e;cases e
   |some ys=>
    rw[en]at e;dsimp only[Option.bind_some]at e;split at e<;>cases e;rename_i c;obtain⟨a',vs,ea,m,rs⟩:=P7 R r1 em;cases ea;obtain⟨b',us,eb,m2,rs2⟩:=P7 R r2 en;cases eb;have lv:vs.length=xs.length:=(qB (reps_iff.mp rs)).symm;have lu:us.length=ys.length:=(qB (reps_iff.mp rs2)).symm;show Sim _ _ _ _ _ _ (match zM h a,zM h b with|some xs,some ys=>_|_,_=>_);rw[m,m2];dsimp only;rw[if_pos (by rw[lv,lu];exact c)];exact P3 R (reps_iff.mpr (zi (reps_iff.mp rs) (reps_iff.mp rs2)))
 ·cases e
theorem F8{x:V}{b:Bool}(e:eqF x x=some b):b=true:=by
 cases x with
 |int i=>cases e;exact uK i
 |bl i=>cases e;exact uK i
 |str i=>cases e;exact uK i
 |non=>cases e;rfl
 |_=>cases e
theorem jh{f:T->T->Option Bool}(hf:∀t b,f t t=some b->b=true):∀(ts:List T) bs,qf f ts ts=some bs->bs.all id=true
 | [],bs,e=>by cases e;rfl
 |t::ts,bs,e=>by
  unfold qf at e;split at e
  ·rename_i b bs' e1 e2;cases e;rw[List.all_cons,hf t b e1,jh hf ts bs' e2];rfl
  ·cases e
theorem JQ:∀(n:Nat) (t:T) (b:Bool),eqT M n t t=some b->b=true
 | 0,t,b,e=>by
  unfold eqT at e;split at e
  ·rename_i x y e1 e2;rw[e1]at e2;cases e2;exact F8 e
  ·cases e
 |n+1,t,b,e=>by
  unfold eqT at e;split at e
  ·rename_i x y e1 e2;rw[e1]at e2;cases e2;exact F8 e
  ·rename_i e1 e2;rw[e1]at e2;cases e2
  ·rename_i e1 e2;rw[e1]at e2;cases e2
  ·split at e
   ·rename_i xs ys e1 e2;rw[e1]at e2;cases e2;rw[if_pos rfl]at e;obtain⟨bs,eb,rfl⟩:=wA.mp e;exact jh (JQ n) xs bs eb
   ·rename_i e1 e2;rw[e1]at e2;cases e2
   ·rename_i e1 e2;rw[e1]at e2;cases e2
   ·split at e
    ·rename_i xs ys e1 e2;rw[e1]at e2;cases e2;rw[if_pos rfl]at e;obtain⟨bs,eb,rfl⟩:=wA.mp e;exact jh (JQ n) xs bs eb
    ·cases e
theorem Qd{f:T->T->Option Bool}{g:V->V->Option Bool}(hf:∀s t x y b,Rep A X h s x->Rep A X h t y->f s t=some b->g x y=some b):∀{ss ts:List T}{xs ys:List V}{bs:List Bool},qQ A X h ss xs->qQ A X h ts ys->qf f ss ts=some bs->ZX g xs ys=some bs
 | [],[],xs,ys,bs,r1,r2,e=>by unfold qQ at r1 r2;subst r1 r2;exact e
 | [],t::ts,xs,ys,bs,r1,r2,e=>by cases e
 |s::ss,[],xs,ys,bs,r1,r2,e=>by cases e
 |s::ss,t::ts,xs,ys,bs,r1,r2,e=>by
  unfold qQ at r1 r2;obtain⟨x,xs',rfl,a1,a2⟩:=r1;obtain⟨y,ys',rfl,b1,b2⟩:=r2;unfold qf at e;split at e
  ·rename_i b bs' e1 e2;cases e;unfold ZX;rw[hf s t x y b a1 b1 e1,Qd hf a2 b2 e2]
  ·cases e
theorem QR{x w:V}(r:Rep A X h (.v x) w):flat x=true:=by unfold Rep at r;exact r.2
theorem N0(R:RelM gl A X h M){t:T}{a:Nat}(r:Rep A X h t (.ref a))(hs:(t.its M).isSome=true):(items h a).isSome=true:=by
 cases t with
 |v x=>unfold Rep at r;exact(jQ r.2 r.1).elim
 |cell n=>unfold Rep at r;obtain⟨b,eb,e⟩:=r;cases e;obtain⟨_,_,_,q,_⟩:=R.at_ n _ eb;unfold items;rw[q];rfl
 |fz xs=>unfold Rep at r;obtain⟨b,vs,e,_,q,_⟩:=r;cases e;unfold items;rw[q];rfl
 |lst xs=>unfold Rep at r;obtain⟨b,vs,e,_,q,_⟩:=r;cases e;unfold items;rw[q];rfl
 |tup xs=>unfold Rep at r;obtain⟨b,vs,e,_,q,_⟩:=r;cases e;unfold items;rw[q];rfl
 |ob o=>cases hs
theorem K0{t:T}{w:V}{ts:List T}(r:Rep A X h t w)(e1:t.isV=none)(e2:t.lis M=none)(e:t.its M=some ts):∃a vs,w=.ref a/\h[a]?=some (.tup vs)/\qQ A X h ts vs:=by
 cases t with
 |v x=>cases e1
 |cell n=>have z:M[n]?=some ts:=e;have z2:M[n]?=none:=e2;rw[z]at z2;cases z2
 |fz xs=>cases e2
 |lst xs=>cases e2
 |tup xs=>unfold Rep at r;obtain⟨b,vs,e',_,q,k⟩:=r;cases e;exact⟨b,vs,e',q,k⟩
 |ob o=>cases e
theorem qAb{n:Nat}{x y:V}(fx:flat x=true)(fy:flat y=true):eqD h (n+1) x y=eqF x y:=by
 cases x<;>cases y<;>first|rfl|(simp[flat]at fx;done)|(simp[flat]at fy;done)
theorem A7(R:RelM gl A X h M):∀(n:Nat) (s t:T) (x y:V) (b:Bool),Rep A X h s x->Rep A X h t y->eqT M n s t=some b->eqD h n x y=some b
 | 0,s,t,x,y,b,r1,r2,e=>by
  unfold eqT at e;split at e
  ·rename_i x' y' e1 e2;cases qi e1;cases qi e2;cases zf r1;cases zf r2;unfold eqD;exact e
  ·cases e
 |n+1,s,t,x,y,b,r1,r2,e=>by
  unfold eqT at e;split at e
  ·rename_i x' y' e1 e2;cases qi e1;cases qi e2;cases zf r1;cases zf r2;rw[qAb (QR r1) (QR r2)];exact e
  ·rename_i x' e1 e2;cases qi e1;cases zf r1;obtain⟨c,rfl⟩:=jv e2 r2;have fx:=QR r1;split at e<;>cases e;rename_i hz;have:=N0 R r2 hz;cases x<;>first|(unfold eqD;simp[flat,this];done)|(simp[flat]at fx;done)
  ·rename_i y' e1 e2;cases qi e2;cases zf r2;obtain⟨c,rfl⟩:=jv e1 r1;have fx:=QR r2;split at e<;>cases e;rename_i hz;have:=N0 R r1 hz;cases y<;>first|(unfold eqD;simp[flat,this];done)|(simp[flat]at fx;done)
  ·rename_i e1 e2;obtain⟨c,rfl⟩:=jv e1 r1;obtain⟨d,rfl⟩:=jv e2 r2;have same:c=d->b=true:=by
    rintro rfl;have:=f8 R.nd R.sub s t r1 r2;subst this;refine JQ (M:=M) (n+1) s b ?_;unfold eqT;rw[e1];exact e
   split at e
   ·rename_i xs ys l1 l2;obtain⟨_,vs,f1,q1,k1,m1⟩:=jG R r1 l1;cases q1;obtain⟨_,us,f2,q2,k2,m2⟩:=jG R r2 l2;cases q2;unfold eqD;rw[k1,k2];dsimp only;by_cases hcd:c=d
    ·rw[if_pos hcd,same hcd]
    ·rw[if_neg hcd,<-qB (reps_iff.mp m1),<-qB (reps_iff.mp m2)];split at e
     ·rename_i hl;rw[if_pos hl];obtain⟨bs,eb,rfl⟩:=wA.mp e;rw[Qd (λs t x y b a1 a2 a3=>A7 R n s t x y b a1 a2 a3) m1 m2 eb];rfl
     ·rename_i hl;rw[if_neg hl];exact e
   ·rename_i l1 l2;obtain⟨_,vs,f1,q1,k1,m1⟩:=jG R r1 l1;cases q1;split at e<;>cases e;rename_i z;cases ei:t.its M with
    |none=>rw[ei]at z;cases z
    |some ys=>
     obtain⟨_,us,q2,k2,m2⟩:=K0 r2 e2 l2 ei;cases q2;unfold eqD;rw[k1,k2]
   ·rename_i l1 l2;obtain⟨_,vs,f1,q1,k1,m1⟩:=jG R r2 l2;cases q1;split at e<;>cases e;rename_i z;cases ei:s.its M with
    |none=>rw[ei]at z;cases z
    |some ys=>
     obtain⟨_,us,q2,k2,m2⟩:=K0 r1 e1 l1 ei;cases q2;unfold eqD;rw[k1,k2]
   ·rename_i l1 l2;split at e
    ·rename_i xs ys i1 i2;obtain⟨_,vs,q1,k1,m1⟩:=K0 r1 e1 l1 i1;cases q1;obtain⟨_,us,q2,k2,m2⟩:=K0 r2 e2 l2 i2;cases q2;unfold eqD;rw[k1,k2];dsimp only;by_cases hcd:c=d
     ·rw[if_pos hcd,same hcd]
     ·rw[if_neg hcd,<-qB (reps_iff.mp m1),<-qB (reps_iff.mp m2)];split at e
      ·rename_i hl;rw[if_pos hl];obtain⟨bs,eb,rfl⟩:=wA.mp e;rw[Qd (λs t x y b a1 a2 a3=>A7 R n s t x y b a1 a2 a3) m1 m2 eb];rfl
      ·rename_i hl;rw[if_neg hl];obtain⟨bs,eb,rfl⟩:=wA.mp e;rw[Qd (λs t x y b a1 a2 a3=>A7 R n s t x y b a1 a2 a3) (reps_iff.mpr (jw _ (reps_iff.mp m1))) (reps_iff.mpr (jw _ (reps_iff.mp m2))) eb];rfl
    ·cases e
theorem G0:∀{ts:List T}{vs xs:List V},qQ A X h ts vs->ji ts=some xs->vs=xs/\xs.all flat=true
 | [],vs,xs,r,e=>by unfold qQ at r;subst r;cases e;exact⟨rfl,rfl⟩
 |t::ts,vs,xs,r,e=>by
  unfold qQ at r;obtain⟨v,vs',rfl,a,b⟩:=r;cases t with
  |v x=>
   unfold ji at e;obtain⟨xs',e',rfl⟩:=wA.mp e;obtain⟨rfl,k⟩:=G0 b e';cases zf a;exact⟨rfl,by rw[List.all_cons,QR a,k];rfl⟩
  |_=>cases e
theorem qCo{t:T}{kvs:List (Int×V)}{w:V}(e:t.dct=some kvs)(r:Rep A X h t w):∃p:Nat,w=.ref p/\p∉X/\h[p]?=some (.ob (.dct kvs)):=by
 cases t with
 |ob o=>
  cases o with
  |dct k=>cases e;unfold Rep at r;exact r
  |exn c=>cases e
 |_=>cases e
theorem qBB(R:RelM gl A X h M){s t:T}{x y:V}{b:Bool}(r1:Rep A X h s x)(r2:Rep A X h t y)(e:inT M s t=some b):Q5 .inn x y h=some b/\Q5 .notin x y h=some (!b):=by
 unfold inT at e;cases hd:t.dct with
 |some kvs=>
  rw[hd]at e;obtain⟨p,rfl,q1,q2⟩:=qCo hd r2;have i0:items h p=none:=by unfold items;rw[q2]
  have d0:C9 h p=some kvs:=by unfold C9;rw[q2]
  dsimp only at e;split at e
  ·cases e;cases zf r1;constructor
   ·dsimp only[Q5,qAd];rw[i0];dsimp only;rw[d0]
   ·dsimp only[Q5,qAd];rw[i0];dsimp only;rw[d0]
  ·cases e
 |none=>
 rw[hd]at e;dsimp only at e;obtain⟨a,ea,e⟩:=wN.mp e;obtain⟨ts,et,e⟩:=wN.mp e;obtain⟨xs,ex,rfl⟩:=wA.mp e;cases qi ea;cases zf r1;obtain⟨p,vs,rfl,q1,q2⟩:=K5 R r2 et;obtain⟨rfl,k⟩:=G0 q2 ex;have fx:=QR r1;constructor
 ·dsimp only[Q5,qAd];rw[q1];dsimp only;rw[if_pos (by rw[fx,k];rfl)]
 ·dsimp only[Q5,qAd];rw[q1];dsimp only;rw[if_pos (by rw[fx,k];rfl)]
theorem QH(R:RelM gl A X h M){op:COp}{s t:T}{x y:V}{b:Bool}(r1:Rep A X h s x)(r2:Rep A X h t y)(e:qd M op s t=some b):Q5 op x y h=some b:=by
 cases op with
 |eq=>exact A7 R 4 s t x y b r1 r2 e
 |ne=>
  obtain⟨c,ec,rfl⟩:=wA.mp (show (eqT M 4 s t).map (!·)=some b from e);show (eqD h 4 x y).map (!·)=_;rw[A7 R 4 s t x y c r1 r2 ec];rfl
 |inn=>exact(qBB R r1 r2 e).1
 |notin=>
  obtain⟨c,ec,rfl⟩:=wA.mp (show (inT M s t).map (!·)=some b from e);exact(qBB R r1 r2 ec).2
 |is=>
  unfold qd at e;dsimp only at e;split at e
  ·rename_i e2;cases qi e2;cases zf r2;cases e;show some (decide (x=V.non))=_;cases hs:s.isV with
   |none=>obtain⟨a,rfl⟩:=jv hs r1;rfl
   |some z=>cases qi hs;cases zf r1;cases x<;>rfl
  ·rename_i e2;cases qi e2;cases zf r2;split at e
   ·rename_i e3;cases qi e3;cases zf r1;exact e
   ·cases e
  ·cases e
 |isnot=>
  unfold qd at e;dsimp only at e;split at e
  ·rename_i e2;cases qi e2;cases zf r2;cases e;show some (!decide (x=V.non))=_;cases hs:s.isV with
   |none=>obtain⟨a,rfl⟩:=jv hs r1;rfl
   |some z=>cases qi hs;cases zf r1;cases x<;>rfl
  ·rename_i e2;cases qi e2;cases zf r2;split at e
   ·rename_i e3;cases qi e3;cases zf r1;exact e
   ·cases e
  ·cases e
 |lt=>unfold qd at e;dsimp only at e;split at e<;>first|(rename_i e1 e2;cases qi e1;cases qi e2;cases zf r1;cases zf r2;exact e)|cases e
 |le=>unfold qd at e;dsimp only at e;split at e<;>first|(rename_i e1 e2;cases qi e1;cases qi e2;cases zf r1;cases zf r2;exact e)|cases e
 |gt=>unfold qd at e;dsimp only at e;split at e<;>first|(rename_i e1 e2;cases qi e1;cases qi e2;cases zf r1;cases zf r2;exact e)|cases e
 |ge=>unfold qd at e;dsimp only at e;split at e<;>first|(rename_i e1 e2;cases qi e1;cases qi e2;cases zf r1;cases zf r2;exact e)|cases e
theorem ZE:∀{ts:List T}{vs:List V}{is:List Int},qQ A X h ts vs->zI ts=some is->jB vs=some is
 | [],vs,xs,r,e=>by unfold qQ at r;subst r;cases e;rfl
 |t::ts,vs,xs,r,e=>by
  unfold qQ at r;obtain⟨v,vs',rfl,a,b⟩:=r;unfold zI at e;split at e
  ·rename_i e';cases e'
  ·rename_i e';cases e';obtain⟨xs',e',rfl⟩:=wA.mp e;cases zf a;show (jB vs').map _=_;rw[ZE b e'];rfl
  ·cases e
theorem E8:∀{ts:List T}{vs:List V}{is:List Int},qQ A X h ts vs->jg ts=some is->jH vs=some is
 | [],vs,xs,r,e=>by unfold qQ at r;subst r;cases e;rfl
 |t::ts,vs,xs,r,e=>by
  unfold qQ at r;obtain⟨v,vs',rfl,a,b⟩:=r;unfold jg at e;split at e
  ·rename_i e';cases e'
  ·rename_i e';cases e';obtain⟨xs',e',rfl⟩:=wA.mp e;cases zf a;show (jH vs').map _=_;rw[E8 b e'];rfl
  ·rename_i e';cases e';obtain⟨xs',e',rfl⟩:=wA.mp e;cases zf a;show (jH vs').map _=_;rw[E8 b e'];rfl
  ·cases e
theorem L0:∀{ts:List T}{vs:List V}{is:List Bool},qQ A X h ts vs->zw ts=some is->QO vs=some is
 | [],vs,xs,r,e=>by unfold qQ at r;subst r;cases e;rfl
 |t::ts,vs,xs,r,e=>by
  unfold qQ at r;obtain⟨v,vs',rfl,a,b⟩:=r;unfold zw at e;split at e
  ·rename_i e';cases e'
  ·rename_i e';cases e';obtain⟨xs',e',rfl⟩:=wA.mp e;cases zf a;show (QO vs').map _=_;rw[L0 b e'];rfl
  ·cases e
theorem Qa{t:T}{ws:List V}(r:qQ A X h [t] ws):∃w,ws=[w]/\Rep A X h t w:=by
 unfold qQ at r;obtain⟨v,vs,rfl,a,b⟩:=r;unfold qQ at b;subst b;exact⟨v,rfl,a⟩
theorem qEN{s t:T}{ws:List V}(r:qQ A X h [s,t] ws):∃w u,ws=[w,u]/\Rep A X h s w/\Rep A X h t u:=by
 unfold qQ at r;obtain⟨v,vs,rfl,a,b⟩:=r;obtain⟨u,rfl,c⟩:=Qa b;exact⟨v,u,rfl,a,c⟩
theorem qW{a:Nat}{f:Bool}{vs:List V}(e:h[a]?=some (.lst f vs)):qL h a=some vs:=by unfold qL;rw[e]
theorem B9(R:RelM gl A X h M){t:T}{w:V}{n:Nat}(r:Rep A X h t w):Sim gl A X h (QE gl A X n) (.ok ((t,t.lf),M)) (.ok (w,h)):=
 ⟨w,h,rfl,Frm.refl A h,R,r,λe=>Frs.of_lf R r e⟩
theorem G1:∀l:List Int,T.lfs (l.map λi=>T.v (.int i))=true
 | []=>by rw[List.map_nil,T.lfs]
 |x::r=>by rw[List.map_cons,T.lfs,G1 r];rfl
theorem JW{A X:List Nat}{h:AH}:∀l:List Int,qQ A X h (l.map λi=>T.v (.int i)) (l.map V.int)
 | []=>by rw[List.map_nil,List.map_nil];unfold qQ;rfl
 |x::r=>by
  rw[List.map_cons,List.map_cons];unfold qQ;exact⟨_,_,rfl,by unfold Rep;exact⟨rfl,rfl⟩,JW r⟩
theorem qCS(R:RelM gl A X h M){f:BF}{ts:List T}{ws:List V}{r:TB}(rs:qQ A X h ts ws)(e:zG M f ts=some r):Sim gl A X h (QE gl A X h.length) (.ok (r,M)) (qEo f ws h):=by
 cases f with
 |len=>
  replace e:=zb e;obtain⟨t0,rfl,e⟩:=e;obtain⟨w,rfl,rw_⟩:=Qa rs;obtain⟨xs,ex,rfl⟩:=wA.mp e;obtain⟨a,vs,rfl,q1,q2⟩:=K5 R rw_ ex;show Sim _ _ _ _ _ _ (match items h a with|some xs=>_|none=>_);rw[q1,qB (reps_iff.mp q2)];exact qF R rfl
 |sum=>
  replace e:=zb e;obtain⟨t0,rfl,e⟩:=e;obtain⟨w,rfl,rw_⟩:=Qa rs;obtain⟨xs,ex,e⟩:=wN.mp e;obtain⟨is,ei,rfl⟩:=wA.mp e;obtain⟨a,vs,f,rfl,q1,q2⟩:=jG R rw_ ex;show Sim _ _ _ _ _ _ (match qL h a with|some xs=>_|none=>_);rw[qW q1];dsimp only;rw[E8 q2 ei];exact qF R rfl
 |all=>
  replace e:=zb e;obtain⟨t0,rfl,e⟩:=e;obtain⟨w,rfl,rw_⟩:=Qa rs;obtain⟨xs,ex,e⟩:=wN.mp e;obtain⟨is,ei,rfl⟩:=wA.mp e;obtain⟨a,vs,f,rfl,q1,q2⟩:=jG R rw_ ex;show Sim _ _ _ _ _ _ (match qL h a with|some xs=>_|none=>_);rw[qW q1];dsimp only;rw[L0 q2 ei];exact qF R rfl
 |max=>
  replace e:=twoT_inv e;obtain⟨i,j,rfl,e⟩:=e;obtain⟨w,u,rfl,a,b⟩:=qEN rs;cases zf a;cases zf b;cases e;exact qF R rfl
 |min=>
  replace e:=twoT_inv e;obtain⟨i,j,rfl,e⟩:=e;obtain⟨w,u,rfl,a,b⟩:=qEN rs;cases zf a;cases zf b;cases e;exact qF R rfl
 |maxl=>
  replace e:=zb e;obtain⟨t0,rfl,e⟩:=e;obtain⟨w,rfl,rw_⟩:=Qa rs;obtain⟨xs,ex,e⟩:=wN.mp e;obtain⟨is,ei,e⟩:=wN.mp e;obtain⟨M,eM,rfl⟩:=wA.mp e;obtain⟨a,vs,f,rfl,q1,q2⟩:=jG R rw_ ex;show Sim _ _ _ _ _ _ (match qL h a with|some xs=>_|none=>_);rw[qW q1];dsimp only;rw[ZE q2 ei,Option.bind_some,eM];exact qF R rfl
 |abs=>
  replace e:=zb e;obtain⟨t0,rfl,e⟩:=e;split at e
  ·obtain⟨w,rfl,a⟩:=Qa rs;cases zf a;cases e;exact qF R rfl
  ·cases e
 |bits=>
  replace e:=zb e;obtain⟨t0,rfl,e⟩:=e;split at e
  ·obtain⟨w,rfl,a⟩:=Qa rs;cases zf a;cases e;exact qF R rfl
  ·cases e
 |list=>
  replace e:=zb e;obtain⟨t0,rfl,e⟩:=e;obtain⟨w,rfl,rw_⟩:=Qa rs;obtain⟨xs,ex,rfl⟩:=wA.mp e;obtain⟨a,vs,rfl,q1,q2⟩:=K5 R rw_ ex;show Sim _ _ _ _ _ _ (match items h a with|some xs=>_|none=>_);rw[q1];exact P3 R q2
 |int=>
  replace e:=zb e;obtain⟨t0,rfl,e⟩:=e;split at e
  ·obtain⟨w,rfl,a⟩:=Qa rs;cases zf a;cases e;exact qF R rfl
  ·obtain⟨w,rfl,a⟩:=Qa rs;cases zf a;cases e;exact qF R rfl
  ·cases e
 |sorted=>
  replace e:=zb e;obtain⟨t0,rfl,e⟩:=e;obtain⟨w,rfl,rw_⟩:=Qa rs;obtain⟨xs,ex,e⟩:=wN.mp e;obtain⟨is,ei,e⟩:=wN.mp e;obtain⟨a,vs,f,rfl,q1,q2⟩:=jG R rw_ ex;show Sim _ _ _ _ _ _ (match qL h a with|some xs=>_|none=>_);rw[qW q1];dsimp only;rw[ZE q2 ei];dsimp only;split at e
  ·rename_i h64;cases e;rw[if_pos h64];have rr:=JW (A:=A) (X:=X) (h:=h) (isort is);exact Zu R rr (wF _) λe=>Frss.of_lf R rr (G1 _)
  ·cases e
theorem qAK(R:RelM gl A X h M){t:T}{w:V}{s:String}(r:Rep A X h t w)(e:zX M t=some s):jC h w=some s:=by
 cases t with
 |v x=>cases zf r;cases w<;>first|exact e|(cases e;done)
 |cell n=>unfold Rep at r;obtain⟨a,ea,rfl⟩:=r;obtain⟨ts,vs,e1,e2,_⟩:=R.at_ n a ea;unfold zX at e;dsimp only at e;rw[e1]at e;cases e;unfold jC;dsimp only;rw[e2]
 |fz xs=>unfold Rep at r;obtain⟨a,vs,rfl,_,q,_⟩:=r;cases e;unfold jC;dsimp only;rw[q]
 |lst xs=>unfold Rep at r;obtain⟨a,vs,rfl,_,q,_⟩:=r;cases e;unfold jC;dsimp only;rw[q]
 |tup xs=>unfold Rep at r;obtain⟨a,vs,rfl,_,q,_⟩:=r;cases e;unfold jC;dsimp only;rw[q]
 |ob o=>cases o with
  |dct=>unfold Rep at r;obtain⟨a,rfl,_,q⟩:=r;cases e;unfold jC;dsimp only;rw[q]
  |exn c=>cases e
theorem B3{ts:List T}{vs:List V}{lo hi:Option Int}(r:qQ A X h ts vs):qQ A X h (v4 ts lo hi) (_L.cutV vs lo hi):=by
 have l:=qB (reps_iff.mp r);unfold v4 _L.cutV;rw[l];exact reps_iff.mpr (jw _ (Jc _ (reps_iff.mp r)))
end
def qA7(A X:List Nat)(h:AH):Option T->Option V->Prop
 |none,_=>True
 |some t,some w=>Rep A X h t w
 |some _,none=>False
abbrev jc(A X:List Nat)(h:AH):TS->List (Option V)->Prop:=QV (qA7 A X h)
section
variable{gl:List T}{A X:List Nat}{h h':AH}{M M':Mem}{σ:TS}{σh:List (Option V)}
theorem L9{i:Nat}{t:T}(r:jc A X h σ σh)(e:σ[i]?=some (some t)):∃w,σh[i]?=some (some w)/\Rep A X h t w:=by
 obtain⟨o,e1,q⟩:=zV r e;cases o with
 |none=>exact q.elim
 |some w=>exact⟨w,e1,q⟩
theorem zv{A' X':List Nat}(hc:∀(n:Nat) a,A[n]?=some a->A'[n]?=some a)(hn:∀a o,a∉X->h[a]?=some o->a∉X'/\h'[a]?=some o)(r:jc A X h σ σh):jc A' X' h' σ σh:=
 Jf (λx y q=>by
  cases x with
  |none=>trivial
  |some t=>cases y with
   |none=>exact q.elim
   |some w=>exact zg hc hn t q) r
theorem RelM.keepS(R:RelM gl A X h M)(f:Frm A h h')(r:jc A X h σ σh):jc A X h' σ σh:=zv (λ_ _ e=>e) (R.keepN f) r
theorem QP(r:jc A X h σ σh):∀src:List (Option Nat),jc A X h (jq src σ) (_L.inner src σh)
 | []=>rfl
 |none::src=>⟨none,_,rfl,trivial,QP r src⟩
 |some j::src=>by
  refine⟨(σh[j]?).join,_,rfl,?_,QP r src⟩;show qA7 A X h (σ[j]?).join _;cases hj:σ[j]? with
  |none=>trivial
  |some o=>cases o with
   |none=>trivial
   |some t=>
    obtain⟨w,e1,q⟩:=L9 r hj;rw[e1];exact q
theorem Q8:∀{is:List Nat}{ts:List T}{ws:List V}{σ σ1:TS}{σh:List (Option V)},qEX is ts σ=some σ1->qQ A X h ts ws->jc A X h σ σh->∃σh1,Zo is ws σh=some σh1/\jc A X h σ1 σh1
 | [],[],ws,σ,σ1,σh,e,r,rs=>by unfold qQ at r;subst r;cases e;exact⟨σh,rfl,rs⟩
 | [],t::ts,ws,σ,σ1,σh,e,r,rs=>by cases e
 |i::is,[],ws,σ,σ1,σh,e,r,rs=>by cases e
 |i::is,t::ts,ws,σ,σ1,σh,e,r,rs=>by
  unfold qQ at r;obtain⟨w,ws',rfl,a,b⟩:=r;exact Q8 (is:=is) (show qEX is ts (σ.set i (some t))=some σ1 from e) b (zU i rs (show qA7 A X h (some t) (some w) from a))
theorem store_ok{g:Tg}{t:T}{w:V}{σ1:TS}(e:zL g t σ=some σ1)(r:Rep A X h t w)(rs:jc A X h σ σh):∃σh1,store g w σh h=some σh1/\jc A X h σ1 σh1:=by
 cases g with
 |name i=>cases e;exact⟨σh.set i (some w),rfl,zU i rs (show qA7 A X h (some t) (some w) from r)⟩
 |tup is=>
  cases t with
  |tup ts=>
   unfold Rep at r;obtain⟨a,vs,rfl,_,q,k⟩:=r;obtain⟨σh1,e1,r1⟩:=Q8 (show qEX is ts σ=some σ1 from e) k rs;refine⟨σh1,?_,r1⟩;show (match qg h a with|some xs=>_|none=>_)=_;rw[show qg h a=some vs by unfold qg;rw[q]];exact e1
  |_=>cases e
theorem Qs:∀(i:Nat) (ts:List T),(QQ i ts).length=ts.length
 |_,[]=>rfl
 |i,t::ts=>by rw[QQ,List.length_cons,List.length_cons,Qs]
theorem A3:∀(i j:Nat) (ts:List T),(QQ i ts)[j]?=(ts[j]?).map λt=>T.tup [.v (.int ((i+j:Nat):Int)),t]
 |_,_,[]=>by simp[QQ]
 |i,0,t::ts=>by simp[QQ]
 |i,j+1,t::ts=>by
  rw[QQ,List.getElem?_cons_succ,List.getElem?_cons_succ,A3 (i+1) j ts];rw[show i+1+j=i+(j+1) by omega]
inductive QT(A X:List Nat)(h:AH):Src->List T->jn->Prop
 |list (a f vs ts):a∉X->h[a]?=some (.lst f vs)->qQ A X h ts vs->QT A X h (.list a) ts []
 |cell (n a vs ts):A[n]?=some a->h[a]?=some (.lst false vs)->qQ A X h ts vs->QT A X h (.list a) ts [(n,ts)]
 |tupl (a vs ts):a∉X->h[a]?=some (.tup vs)->qQ A X h ts vs->QT A X h (.tupl a) ts []
 |rng (lo n):QT A X h (.rng lo n) (zO lo n) []
 |enum (a ts d):QT A X h (.list a) ts d->QT A X h (.enum a) (QQ 0 ts) d
 |rvd (a ts d):QT A X h (.list a) ts d->QT A X h (.rvd a ts.length) ts.reverse d
 |zip (a b ts us d1 d2):QT A X h (.list a) ts d1->QT A X h (.list b) us d2->QT A X h (.zip a b) (List.zipWith (λx y=>T.tup [x,y]) ts us) (d1++d2)
theorem jS{d1 d2:jn}(e:qh (d1++d2) M=true):qh d1 M=true/\qh d2 M=true:=by
 unfold qh at e ⊢;rw[List.all_append,wC]at e;exact e
theorem j6{s:Src}{ts:List T}{d:jn}(r:QT A X h s ts d)(hn:∀a o,a∉X->h[a]?=some o->h'[a]?=some o)(R:RelM gl A X h' M')(hd:qh d M'=true):QT A X h' s ts d:=by
 induction r with
 |list a f vs ts q1 q2 q3=>exact .list a f vs ts q1 (hn _ _ q1 q2) (qT (λ_ _ e=>e) (λa o x y=>⟨x,hn a o x y⟩) ts q3)
 |cell n a vs ts q1 q2 q3=>
  obtain⟨ts',vs',e1,e2,e3⟩:=R.at_ n a q1;unfold qh at hd;simp only[List.all_cons,List.all_nil,vY]at hd;rw[e1]at hd;have:=QS _ _ hd;subst this;exact .cell n a vs' ts' q1 e2 e3
 |tupl a vs ts q1 q2 q3=>exact .tupl a vs ts q1 (hn _ _ q1 q2) (qT (λ_ _ e=>e) (λa o x y=>⟨x,hn a o x y⟩) ts q3)
 |rng lo n=>exact .rng lo n
 |enum a ts d _ i1=>exact .enum a ts d (i1 hd)
 |rvd a ts d _ i1=>exact .rvd a ts d (i1 hd)
 |zip a b ts us d1 d2 _ _ i1 i2=>exact .zip a b ts us d1 d2 (i1 (jS hd).1) (i2 (jS hd).2)
theorem Zj{A' X':List Nat}{s:Src}{ts:List T}{d:jn}(r:QT A X h s ts d)(hn:∀a o,a∉X->h[a]?=some o->a∉X'/\h'[a]?=some o)(R:RelM gl A' X' h' M')(hd:qh d M'=true)(hA:∀(n:Nat) a,A[n]?=some a->A'[n]?=some a:=by exact λ_ _ e=>e):QT A' X' h' s ts d:=by
 induction r with
 |list a f vs ts q1 q2 q3=>exact .list a f vs ts (hn _ _ q1 q2).1 (hn _ _ q1 q2).2 (qT hA hn ts q3)
 |cell n a vs ts q1 q2 q3=>
  obtain⟨ts',vs',e1,e2,e3⟩:=R.at_ n a (hA _ _ q1);unfold qh at hd;simp only[List.all_cons,List.all_nil,vY]at hd;rw[e1]at hd;have:=QS _ _ hd;subst this;exact .cell n a vs' ts' (hA _ _ q1) e2 e3
 |tupl a vs ts q1 q2 q3=>exact .tupl a vs ts (hn _ _ q1 q2).1 (hn _ _ q1 q2).2 (qT hA hn ts q3)
 |rng lo n=>exact .rng lo n
 |enum a ts d _ i1=>exact .enum a ts d (i1 hd)
 |rvd a ts d _ i1=>exact .rvd a ts d (i1 hd)
 |zip a b ts us d1 d2 _ _ i1 i2=>exact .zip a b ts us d1 d2 (i1 (jS hd).1) (i2 (jS hd).2)
theorem qy{a:Nat}{ts:List T}{d:jn}(r:QT A X h (.list a) ts d):∃vs,qL h a=some vs/\qQ A X h ts vs:=by
 cases r with
 |list _ f vs _ q1 q2 q3=>exact⟨vs,qW q2,q3⟩
 |cell n _ vs _ q1 q2 q3=>exact⟨vs,qW q2,q3⟩
theorem K6{s:Src}{ts:List T}{d:jn}(r:QT A X h s ts d):j9 h s=some ts.length:=by
 cases r with
 |list a f vs ts q1 q2 q3=>show (qL h a).map _=_;rw[qW q2,Option.map_some,qB (reps_iff.mp q3)]
 |cell n a vs ts q1 q2 q3=>show (qL h a).map _=_;rw[qW q2,Option.map_some,qB (reps_iff.mp q3)]
 |tupl a vs ts q1 q2 q3=>show (qg h a).map _=_;rw[show qg h a=some vs by unfold qg;rw[q2],Option.map_some,qB (reps_iff.mp q3)]
 |rng lo n=>show some n=_;simp[zO]
 |enum a ts d r1=>
  obtain⟨vs,e1,k1⟩:=qy r1;show (qL h a).map _=_;rw[e1,Option.map_some,Qs,qB (reps_iff.mp k1)]
 |rvd a ts d r1=>show some _=_;simp
 |zip a b ts us d1 d2 r1 r2=>
  obtain⟨vs,e1,k1⟩:=qy r1;obtain⟨ws,e2,k2⟩:=qy r2;show (match qL h a,qL h b with|some xs,some ys=>_|_,_=>_)=_;rw[e1,e2,List.length_zipWith,qB (reps_iff.mp k1),qB (reps_iff.mp k2)]
theorem Jw{s:Src}{ts:List T}{d:jn}(r:QT A X h s ts d):jd h ts.length s=true:=by
 cases r with
 |list a f vs ts q1 q2 q3=>show (match qL h a with|some xs=>_|none=>_)=_;rw[qW q2,qB (reps_iff.mp q3)];simp
 |cell n a vs ts q1 q2 q3=>show (match qL h a with|some xs=>_|none=>_)=_;rw[qW q2,qB (reps_iff.mp q3)];simp
 |tupl a vs ts q1 q2 q3=>show (match qg h a with|some xs=>_|none=>_)=_;rw[show qg h a=some vs by unfold qg;rw[q2],qB (reps_iff.mp q3)];simp
 |rng lo n=>show decide _=_;simp[zO]
 |enum a ts d r1=>
  obtain⟨vs,e1,k1⟩:=qy r1;show (match qL h a with|some xs=>_|none=>_)=_;rw[e1,Qs,qB (reps_iff.mp k1)];simp
 |rvd a ts d r1=>show decide _=_;simp
 |zip a b ts us d1 d2 r1 r2=>
  obtain⟨vs,e1,k1⟩:=qy r1;obtain⟨ws,e2,k2⟩:=qy r2;show (match qL h a,qL h b with|some xs,some ys=>_|_,_=>_)=_;rw[e1,e2,List.length_zipWith,qB (reps_iff.mp k1),qB (reps_iff.mp k2)];simp;omega
theorem Zm(R:RelM gl A X h M){s:Src}{ts:List T}{d:jn}(r:QT A X h s ts d){i:Nat}{t:T}(ei:ts[i]?=some t):
  ∃w e,qt h i s=some (w,h++e)/\Rep A X (h++e) t w:=by
 cases r with
 |list a f vs ts q1 q2 q3=>
  obtain⟨w,ew,q⟩:=zV (reps_iff.mp q3) ei;refine⟨w,[],?_,by rw[wO];exact q⟩;show (match qL h a with|some xs=>_|none=>_)=_;rw[qW q2];dsimp only;rw[ew,wO];rfl
 |cell n a vs ts q1 q2 q3=>
  obtain⟨w,ew,q⟩:=zV (reps_iff.mp q3) ei;refine⟨w,[],?_,by rw[wO];exact q⟩;show (match qL h a with|some xs=>_|none=>_)=_;rw[qW q2];dsimp only;rw[ew,wO];rfl
 |tupl a vs ts q1 q2 q3=>
  obtain⟨w,ew,q⟩:=zV (reps_iff.mp q3) ei;refine⟨w,[],?_,by rw[wO];exact q⟩;show (match qg h a with|some xs=>_|none=>_)=_;rw[show qg h a=some vs by unfold qg;rw[q2]];dsimp only;rw[ew,wO];rfl
 |rng lo n=>
  have hi:i<n:=by have:=(wB.mp ei).1;simpa [zO] using this
  refine⟨.int (lo+(i:Int)),[],?_,?_⟩
  ·show (if i<n then _ else _)=_;rw[if_pos hi,wO]
  ·have:t=.v (.int (lo+(i:Int))):=by
    simp only[zO,wj,vO hi,Option.map_some,Option.some.injEq]at ei;exact ei.symm
   rw[this];unfold Rep;exact⟨rfl,rfl⟩
 |enum a ts d r1=>
  obtain⟨vs,e1,k1⟩:=qy r1;rw[A3]at ei;obtain⟨x,ex,rfl⟩:=wA.mp ei;obtain⟨v,ev,qv⟩:=zV (reps_iff.mp k1) ex;refine⟨.ref h.length,[.tup [.int (i:Int),v]],?_,?_⟩
  ·show (match qL h a with|some xs=>_|none=>_)=_;rw[e1];dsimp only;rw[ev];rfl
  ·have f:=Frm.app A h [O.tup [.int (i:Int),v]];unfold Rep;refine⟨_,[.int (i:Int),v],rfl,λz=>wl _ (R.lt _ z),by simp,?_⟩;unfold qQ;refine⟨.int (i:Int),[v],rfl,by unfold Rep;rw[uA];exact⟨rfl,rfl⟩,?_⟩;unfold qQ;exact⟨v,[],rfl,R.keep f qv,by unfold qQ;rfl⟩
 |rvd a ts d r1=>
  obtain⟨vs,e1,k1⟩:=qy r1;have hi:i<ts.length:=by have:=(wB.mp ei).1;simpa using this
  rw[List.getElem?_reverse hi]at ei;obtain⟨w,ew,q⟩:=zV (reps_iff.mp k1) ei;refine⟨w,[],?_,by rw[wO];exact q⟩;show (if i<ts.length then _ else _)=_;rw[if_pos hi,e1];dsimp only;rw[ew,wO];rfl
 |zip a b ts us d1 d2 r1 r2=>
  obtain⟨vs,e1,k1⟩:=qy r1;obtain⟨ws,e2,k2⟩:=qy r2;rw[List.getElem?_zipWith]at ei;cases et:ts[i]? with
  |none=>rw[et]at ei;cases ei
  |some x=>
   cases eu:us[i]? with
   |none=>rw[et,eu]at ei;cases ei
   |some y=>
    rw[et,eu]at ei;cases ei;obtain⟨v,ev,qv⟩:=zV (reps_iff.mp k1) et;obtain⟨w,ew,qw⟩:=zV (reps_iff.mp k2) eu;refine⟨.ref h.length,[.tup [v,w]],?_,?_⟩
    ·show (match qL h a,qL h b with|some xs,some ys=>_|_,_=>_)=_;rw[e1,e2];dsimp only;rw[ev,ew]
    ·have f:=Frm.app A h [O.tup [v,w]];unfold Rep;refine⟨_,[v,w],rfl,λz=>wl _ (R.lt _ z),by simp,?_⟩;unfold qQ;refine⟨v,[w],rfl,R.keep f qv,?_⟩;unfold qQ;exact⟨w,[],rfl,R.keep f qw,by unfold qQ;rfl⟩
theorem Frs.ofD(R:RelM gl A X h M){kvs:List (Int×V)}(r:Rep A X (h++[O.ob (.dct kvs)]) (.ob (.dct kvs)) (.ref h.length)):Frs gl A X h.length (h++[O.ob (.dct kvs)]) M (.ob (.dct kvs)) (.ref h.length):=
 ⟨[],by unfold Rep at r;unfold FP;exact⟨r,rfl⟩,vi,λa ha=>by simp at ha,by rw[wO];exact R.up _,λ_ _=>⟨h.length,rfl,wF _,R.addX λa=>by simp only[wJ,wo];grind⟩⟩
theorem RelM.setX(R:RelM gl A X h M){D:Nat}(hD:D∈X)(hA:D∉A)(o:O):RelM gl A X (h.set D o) M:=by
 have hn:∀a o',a∉X->h[a]?=some o'->a∉X/\(h.set D o)[a]?=some o':=λa o' x y=>⟨x,by rw[wW (by rintro rfl;exact x hD)];exact y⟩
 refine⟨R.len,R.nd,R.sub,λa ha=>by simpa using R.lt a ha,λn a e=>?_,λg t e=>zg (λ_ _ e=>e) hn t (R.glo g t e)⟩;obtain⟨ts,vs,e1,e2,e3⟩:=R.at_ n a e;exact⟨ts,vs,e1,by rw[wW (by rintro rfl;exact hA (wR e))];exact e2,qT (λ_ _ e=>e) hn ts e3⟩
theorem Sim.bindW{α β α2 β2:Type}{X':List Nat}{h1:AH}{Q:α->β->AH->Mem->Prop}{Q2:α2->β2->AH->Mem->Prop}{r:PR (α×Mem)}{rh:Res (β×AH)}{f:α×Mem->PR (α2×Mem)}{g:β×AH->Res (β2×AH)}
  (hX:∀a∈X,a∈X') (hA:∀a∈A,a∈X) (f0:Frm A h1 h)
  (s:Sim gl A X' h Q r rh) (k:∀x M' y h',Frm A h h'->RelM gl A X' h' M'->Q x y h' M'->Sim gl A X h1 Q2 (f (x,M')) (g (y,h'))):Sim gl A X h1 Q2 (r.bind f) (rh.bind g):=by
 cases r with
 |ok p=>
  obtain⟨x,M'⟩:=p;obtain⟨y,h',rfl,f1,R1,q⟩:=s;exact k x M' y h' f1 R1 q
 |exc c M'=>
  obtain⟨h',rfl,f1,R1⟩:=s;exact⟨h',rfl,f0.trans f1,R1.weak hX hA⟩
 |stuck=>trivial
mutual
theorem qFL{X X':List Nat}{h:AH}:∀(t:T){w:V}{f g:List Nat},FP X h t w f->FP X' h t w g->f=g
 | .v x,w,f,g,p,q=>by unfold FP at p q;rw[p.2,q.2]
 | .cell n,w,f,g,p,q=>by unfold FP at p;exact p.elim
 | .fz ts,w,f,g,p,q=>by unfold FP at p;exact p.elim
 | .ob o,w,f,g,p,q=>by unfold FP at p q;rw[p.2,q.2]
 | .lst ts,w,f,g,p,q=>by
  unfold FP at p q;obtain⟨a,vs,f',rfl,_,e1,k1,rfl⟩:=p;obtain⟨b,us,g',e,_,e2,k2,rfl⟩:=q;cases e;rw[e1]at e2;cases e2;rw[Zz ts k1 k2]
 | .tup ts,w,f,g,p,q=>by
  unfold FP at p q;obtain⟨a,vs,rfl,_,e1,k1⟩:=p;obtain⟨b,us,e,_,e2,k2⟩:=q;cases e;rw[e1]at e2;cases e2;exact Zz ts k1 k2
theorem Zz{X X':List Nat}{h:AH}:∀(ts:List T){ws:List V}{f g:List Nat},FPs X h ts ws f->FPs X' h ts ws g->f=g
 | [],w,f,g,p,q=>by unfold FPs at p q;rw[p.2,q.2]
 |t::ts,w,f,g,p,q=>by
  unfold FPs at p q;obtain⟨v,vs,f1,f2,rfl,a,b,rfl⟩:=p;obtain⟨v',vs',g1,g2,e,a',b',rfl⟩:=q;cases e;rw[qFL t a a',Zz ts b b']
end
theorem J0:∀{ts:List T}{ws:List V}{fp f:List Nat}{t:T}{w:V},FPs X h ts ws fp->FP X h t w f->FPs X h (ts++[t]) (ws++[w]) (fp++f)
 | [],ws,fp,f,t,w,p,q=>by
  unfold FPs at p;obtain⟨rfl,rfl⟩:=p;show FPs X h [t] [w] f;unfold FPs;exact⟨w,[],f,[],rfl,q,by unfold FPs;exact⟨rfl,rfl⟩,by simp⟩
 |s::ts,ws,fp,f,t,w,p,q=>by
  unfold FPs at p;obtain⟨v,vs,f1,f2,rfl,a,b,rfl⟩:=p;show FPs X h (s::(ts++[t])) (v::(vs++[w])) _;unfold FPs;exact⟨v,vs++[w],f1,f2++f,rfl,a,J0 b q,by rw[wV]⟩
end
section
variable{gl:List T}{A X:List Nat}
theorem Zr{s:Src}{its:List T}{d:jn}{g:Tg}{c:TS->Mem->PR (Bool×Mem)}{c':List (Option V)->AH->Res (Bool×AH)}{e:TS->Mem->PR (TB×Mem)}{e':List (Option V)->AH->RV}{D:Nat}{h1:AH}
  (hc:∀X h M σ σh,RelM gl A X h M->jc A X h σ σh->Sim gl A X h (λb b' _ _=>b=b') (c σ M) (c' σh h))
  (he:∀X h M σ σh,RelM gl A X h M->jc A X h σ σh->Sim gl A X h (QE gl A X h.length) (e σ M) (e' σh h))
  (hD:h1.length<=D) (hDX:D∉X) (hA:∀a∈A,a∈X):∀(r:List T) (i:Nat) (ys:List T) (ws:List V) (f:Bool) (fp:List Nat) (Y:List Nat) (σ:TS) (σh:List (Option V)) (M:Mem) (h:AH),
   its.drop i=r->i<=its.length->Y=D::X++fp->Frm A h1 h->RelM gl A Y h M->QT A Y h s its d->h[D]?=some (.lst false ws)->qQ A (D::X) h ys ws ->
   (f=true->FPs (D::X) h ys ws fp/\fp.Nodup/\∀a∈fp,h1.length<=a)->jc A Y h σ σh ->
   Sim gl A X h1 (QE gl A X h1.length) (qI d g c e r ys f σ M) (Qw s g c' e' D r.length i ws σh h)
 | [],i,ys,ws,f,fp,Y,σ,σh,M,h,hr,hi,hY,fm,R,sr,eD,ry,hf,rs=>by
  have hi':i=its.length:=by
   have:=List.drop_eq_nil_iff.mp hr;omega
  subst hi';have hX:∀a∈X,a∈D::X:=λa z=>wI _ z;have hXY:∀a∈X,a∈Y:=λa z=>by rw[hY];simp[z]
  have hn:∀a o,a∉D::X->h[a]?=some o->a∉X/\h[a]?=some o:=λa o x y=>⟨λz=>x (hX _ z),y⟩
  refine⟨.ref D,h,?_,fm,R.weak hXY hA,?_,λe=>?_⟩
  ·show (if jd h its.length s then _ else _)=_;rw[if_pos (Jw sr)]
  ·show Rep A X h (.lst ys) _;unfold Rep;exact⟨D,ws,rfl,hDX,eD,qT (λ_ _ e=>e) hn ys ry⟩
  ·obtain⟨p,nd,l⟩:=hf e;refine⟨fp++[D],?_,?_,?_,?_⟩
   ·show FP X h (.lst ys) _ _;unfold FP;exact⟨D,ws,fp,rfl,hDX,eD,zy hn ys p,rfl⟩
   ·rw[wp];refine⟨nd,by simp,?_⟩;rintro a ha b hb rfl;simp at hb;exact(QI ys p a ha).1 (by rw[hb];exact wM ..)
   ·intro a ha;rcases wJ.mp ha with z|z
    ·exact l a z
    ·simp at z;omega
   ·refine⟨R.weak (λa z=>?_) λa z=>wP _ (hA a z),New.lst⟩;rw[hY];simp only[wJ,wL,wo]at z ⊢
    grind
 |x::r,i,ys,ws,f,fp,Y,σ,σh,M,h,hr,hi,hY,fm,R,sr,eD,ry,hf,rs=>by
  have hXY:∀a∈X,a∈Y:=λa z=>by rw[hY];simp[z]
  have hDY:D∈Y:=by rw[hY];simp
  have hDXY:∀a∈D::X,a∈Y:=λa z=>by rw[hY];exact wP _ z
  have hDA:D∉A:=λz=>hDX (hA D z);have ex:its[i]?=some x:=by
   have:(its.drop i)[0]?=some x:=by rw[hr];rfl
   rwa [List.getElem?_drop,Nat.add_zero]at this
  have hi2:i+1<=its.length:=(wB.mp ex).1;have hr2:its.drop (i+1)=r:=by
   rw[<-List.drop_drop,hr];rfl
  obtain⟨w,ext,ey,rx⟩:=Zm R sr ex;have fy:Frm A h (h++ext):=Frm.app A h ext;rw[List.length_cons];unfold qI Qw;rw[ey];dsimp only;cases es:zL g x σ with
  |none=>exact Sim.stuck
  |some σ1=>
   obtain⟨σh1,esh,rs1⟩:=store_ok es rx (R.keepS fy rs);rw[esh];dsimp only;refine Sim.bindW hXY hA (fm.trans fy) (hc _ _ _ _ _ (R.up ext) rs1) ?_;rintro b M2 b' h2 f2 R2 rfl;have k2:Frm A h h2:=fy.trans f2;have eD2:h2[D]?=some (.lst false ws):=(k2.2 D (qP eD) hDA).trans eD;have kN:∀{h':AH},Frm A h h'->∀a o,a∉D::X->h[a]?=some o->a∉D::X/\h'[a]?=some o:=λf' a o x y=>⟨x,(f'.2 a (qP y) λz=>x (wI _ (hA _ z))).trans y⟩
   cases b with
   |true=>
    simp only[if_true];refine Sim.bindW hXY hA (fm.trans k2) (he _ _ _ _ _ R2 ((R.up ext).keepS f2 rs1)) ?_;intro y M3 w3 h3 f3 R3 q3;have k3:Frm A h h3:=k2.trans f3;have eD3:h3[D]?=some (.lst false ws):=(k3.2 D (qP eD) hDA).trans eD;have lw:ys.length=ws.length:=qB (reps_iff.mp ry);dsimp only;by_cases hl:ys.length<lim/\qh d M3=true
    ·rw[if_pos hl,if_pos ⟨eD3,by rw[<-lw];exact hl.1⟩];have hs:∀(Z:List Nat),D∈Z->∀a o,a∉Z->h3[a]?=some o->a∉Z/\(h3.set D (.lst false (ws++[w3])))[a]?=some o:=λZ hZ a o x y=>⟨x,by rw[wW (by rintro rfl;exact x hZ)];exact y⟩
     have hnD:∀a o,a∉D::X->h[a]?=some o->a∉D::X/\(h3.set D (.lst false (ws++[w3])))[a]?=some o:=λa o x y=>hs _ (wM ..) a o x (kN k3 a o x y).2;have ry4:qQ A (D::X) (h3.set D (.lst false (ws++[w3]))) (ys++[y.1]) (ws++[w3]):=
      reps_iff.mpr (zi (reps_iff.mp (qT (λ_ _ e=>e) hnD ys ry)) ⟨w3,[],rfl,zg (λ_ _ e=>e) (λa o x y=>hs _ (wM ..) a o x y) _ (zg (λ_ _ e=>e) (λa o x y=>⟨λz=>x (hDXY _ z),y⟩) _ q3.1),rfl⟩)
     obtain⟨fp2,hp2,R3',hlt2⟩:∃fp2:List Nat,(y.2=true->FP Y h3 y.1 w3 fp2/\fp2.Nodup)/\RelM gl A (Y++fp2) h3 M3/\∀a∈fp2,h2.length<=a:=by
      cases hy2:y.2 with
      |true=>
       obtain⟨fp2,a,b,c,d,_⟩:=q3.2 hy2;exact⟨fp2,λ_=>⟨a,b⟩,d,c⟩
      |false=>exact⟨[],(λz=>by cases z),by rw[wO];exact R3,λa ha=>by simp at ha⟩
     have old:∀{Z:List Nat}(_:∀a∈Y,a∈Z) (a:Nat) o,a∉Y->h2[a]?=some o->a∉Y++fp2:=λ_ a o x y=>by
      rw[wJ];rintro(z|z)
      ·exact x z
      ·have:=hlt2 a z;have:=qP y;omega
     have R4:=R3'.setX (wP _ hDY) hDA (.lst false (ws++[w3]));have hnY:∀a o,a∉Y->h[a]?=some o->a∉Y++fp2/\(h3.set D (.lst false (ws++[w3])))[a]?=some o:=λa o x y=>⟨old (λ_ z=>z) a o x (R.keepN k2 a o x y).2,(hs Y hDY a o x (R.keepN k3 a o x y).2).2⟩
     have hn2:∀a o,a∉Y->h2[a]?=some o->a∉Y++fp2/\(h3.set D (.lst false (ws++[w3])))[a]?=some o:=λa o x y=>⟨old (λ_ z=>z) a o x y,(hs Y hDY a o x (R2.keepN f3 a o x y).2).2⟩
     refine Zr hc he hD hDX hA r (i+1) (ys++[y.1]) (ws++[w3]) (f&&y.2) (fp++fp2) (Y++fp2) σ1 σh1 M3 _ hr2 hi2 (by rw[hY,wV]) ((fm.trans k3).set (.inr hD) _) R4 ?_ ?_ ry4 ?_ ?_
     ·exact Zj sr hnY R4 hl.2
     ·rw[wn (qP eD3)]
     ·intro ef;rw[wC]at ef;obtain⟨p1,nd1,l1⟩:=hf ef.1;obtain⟨p2,nd2⟩:=hp2 ef.2;refine⟨J0 (zy hnD ys p1) (Za (λa o x y=>hs _ (wM ..) a o x y) _ (Za (λa o x y=>⟨λz=>x (hDXY _ z),y⟩) _ p2)),?_,?_⟩
      ·rw[wp];refine⟨nd1,nd2,?_⟩;rintro a ha b hb rfl;exact(J8 y.1 p2 a hb).1 (by rw[hY];exact wS _ ha)
      ·intro a ha;rcases wJ.mp ha with z|z
       ·exact l1 a z
       ·have:=hlt2 a z;have:=(fm.trans k2).1;omega
     ·exact zv (λ_ _ e=>e) hn2 ((R.up ext).keepS f2 rs1)
    ·rw[if_neg hl];exact Sim.stuck
   |false=>
    dsimp only;simp only[vR,if_false];by_cases hl:qh d M2=true
    ·rw[if_pos hl,if_pos eD2];exact Zr hc he hD hDX hA r (i+1) ys ws f fp Y σ1 σh1 M2 h2 hr2 hi2 hY (fm.trans k2) R2 (j6 sr (λa o x y=>(R.keepN k2 a o x y).2) R2 hl) eD2 (qT (λ_ _ e=>e) (kN k2) ys ry)
      (λef=>by obtain⟨a,b,c⟩:=hf ef;exact⟨zy (kN k2) ys a,b,c⟩) ((R.up ext).keepS f2 rs1)
    ·rw[if_neg hl];exact Sim.stuck
end
section
variable{gl:List T}{A X:List Nat}{h h':AH}{M M':Mem}
theorem p8{X':List Nat}{s:Src}{ts:List T}{d:jn}(r:QT A X h s ts d)(hn:∀a o,a∉X->h[a]?=some o->a∉X'/\h'[a]?=some o)(hc:∀(n:Nat) a o,A[n]?=some a->h[a]?=some o->h'[a]?=some o):QT A X' h' s ts d:=by
 induction r with
 |list a f vs ts q1 q2 q3=>exact .list a f vs ts (hn _ _ q1 q2).1 (hn _ _ q1 q2).2 (qT (λ_ _ e=>e) hn ts q3)
 |cell n a vs ts q1 q2 q3=>exact .cell n a vs ts q1 (hc n a _ q1 q2) (qT (λ_ _ e=>e) hn ts q3)
 |tupl a vs ts q1 q2 q3=>exact .tupl a vs ts (hn _ _ q1 q2).1 (hn _ _ q1 q2).2 (qT (λ_ _ e=>e) hn ts q3)
 |rng lo n=>exact .rng lo n
 |enum a ts d _ i1=>exact .enum a ts d i1
 |rvd a ts d _ i1=>exact .rvd a ts d i1
 |zip a b ts us d1 d2 _ _ i1 i2=>exact .zip a b ts us d1 d2 i1 i2
theorem F3{n:Nat}{r:PR (TB×Mem)}{rh:RV}(s:Sim gl A X h (QE gl A X n) r rh):Sim gl A X h (λb b' _ _=>b=b') (pB r) (asB rh):=by
 refine Sim.bind s ?_;intro x M1 w h1 f1 R1 q1;obtain⟨t,fr⟩:=x;dsimp only;split
 ·rename_i b;cases zf q1.1;exact⟨_,h1,rfl,Frm.refl A h1,R1,rfl⟩
 ·exact Sim.stuck
theorem Jd:∀(xs:List V),T.lfs (xs.map .v)=true
 | []=>rfl
 |x::xs=>by show (T.lf (.v x)&&T.lfs (xs.map .v))=true;rw[Jd xs];rfl
theorem Q0(lo:Int)(n:Nat):T.lfs (zO lo n)=true:=by
 have e:zO lo n=(jZ lo n).map .v:=by unfold zO jZ;rw[wx];rfl
 rw[e];exact Jd _
theorem jr{A X:List Nat}{h:AH}:∀{xs:List V},xs.all flat=true->qQ A X h (xs.map .v) xs
 | [],_=>by show qQ A X h [] [];unfold qQ;rfl
 |x::xs,f=>by
  rw[List.all_cons,wC]at f;show qQ A X h (.v x::xs.map .v) _;unfold qQ;exact⟨x,xs,rfl,by unfold Rep;exact⟨rfl,f.1⟩,jr f.2⟩
theorem u9(R:RelM gl A X h M){m:Mt}{n p:Nat}{ts:List T}{ws:List V}(ep:A[n]?=some p)(rs:qQ A X h ts ws):Sim gl A X h (QE gl A X h.length) (tH (ZA m n ts M)) (ZW m p ws h):=by
 obtain⟨ts2,vs2,g1,g2,g3⟩:=R.at_ n p ep;have hm:zM h p=some vs2:=by unfold zM;rw[g2]
 have l:=qB (reps_iff.mp g3);cases em:ZA m n ts M with
 |none=>exact Sim.stuck
 |some r=>
  unfold ZA at em;split at em
  ·unfold qQ at rs;subst rs;rw[g1]at em;cases em;show Sim _ _ _ _ _ _ (match zM h p with|some xs=>_|none=>_);rw[hm];obtain⟨R4,f4⟩:=R.put (ts:=[]) (vs:=[]) ep (by unfold qQ;rfl);have r:Rep A X (h.set p (.lst false [])) (.v .non) .non:=by unfold Rep;exact⟨rfl,rfl⟩
   exact⟨_,_,rfl,f4,R4,r,λe=>Frs.of_lf R4 r e⟩
  ·rename_i t;obtain⟨w,rfl,a⟩:=Qa rs;rw[g1]at em;dsimp only[Option.bind_some]at em;obtain⟨ys,ey,em⟩:=wN.mp em;split at em
   ·rename_i hc;cases em;obtain⟨q,us,rfl,m2,k2⟩:=P7 R a ey;have hne:p≠q:=by
     rintro rfl;cases t with
     |cell k=>
      unfold Rep at a;obtain⟨a',ea,e⟩:=a;cases e;have:n=k:=(vh (wB.mp ep).1 R.nd).mp (ep.trans ea.symm);have hc1:=hc.1;unfold T.isC at hc1;simp at hc1;exact hc1 this.symm
     |lst xs=>unfold Rep at a;obtain⟨a',vs',e,z,_⟩:=a;cases e;exact z (R.sub _ (wR ep))
     |_=>cases ey
    show Sim _ _ _ _ _ _ (match zM h p with|some xs=>_|none=>_);rw[hm];dsimp only;rw[m2];dsimp only;rw[if_pos ⟨hne,by rw[<-l,<-qB (reps_iff.mp k2)];exact hc.2⟩];obtain⟨R4,f4⟩:=R.put ep (reps_iff.mpr (zi (reps_iff.mp g3) (reps_iff.mp k2)));have r:Rep A X (h.set p (.lst false (vs2++us))) (.v .non) .non:=by unfold Rep;exact⟨rfl,rfl⟩
    exact⟨_,_,rfl,f4,R4,r,λe=>Frs.of_lf R4 r e⟩
   ·cases em
  ·cases em
theorem qCg(R:RelM gl A X h M){t:T}{w:V}{s:List T×jn}(r:Rep A X h t w)(e:Zi M t=some s):∃p sh,w=.ref p/\(match h[p]? with|some (.lst _ _)=>Res.ok (Src.list p,h)|some (.tup _)=>.ok (.tupl p,h)|_=>.stuck)=.ok (sh,h)/\QT A X h sh s.1 s.2:=by
 cases t with
 |v x=>cases e
 |cell n=>
  unfold Rep at r;obtain⟨a,ea,rfl⟩:=r;obtain⟨ts,vs,e1,e2,e3⟩:=R.at_ n a ea;unfold Zi at e;dsimp only at e;rw[e1]at e;cases e;exact⟨a,_,rfl,by rw[e2],.cell n a vs ts ea e2 e3⟩
 |fz xs=>unfold Rep at r;obtain⟨a,vs,rfl,q,k,z⟩:=r;cases e;exact⟨a,_,rfl,by rw[k],.list a true vs xs q k z⟩
 |lst xs=>unfold Rep at r;obtain⟨a,vs,rfl,q,k,z⟩:=r;cases e;exact⟨a,_,rfl,by rw[k],.list a false vs xs q k z⟩
 |tup xs=>unfold Rep at r;obtain⟨a,vs,rfl,q,k,z⟩:=r;cases e;exact⟨a,_,rfl,by rw[k],.tupl a vs xs q k z⟩
 |ob o=>cases e
theorem Zs(R:RelM gl A X h M){t:T}{w:V}{s:List T×jn}(r:Rep A X h t w)(e:ZS M t=some s):∃p vs,w=.ref p/\qL h p=some vs/\QT A X h (.list p) s.1 s.2:=by
 cases t with
 |v x=>cases e
 |cell n=>
  unfold Rep at r;obtain⟨a,ea,rfl⟩:=r;obtain⟨ts,vs,e1,e2,e3⟩:=R.at_ n a ea;unfold ZS at e;dsimp only at e;rw[e1]at e;cases e;exact⟨a,_,rfl,qW e2,.cell n a vs ts ea e2 e3⟩
 |fz xs=>unfold Rep at r;obtain⟨a,vs,rfl,q,k,z⟩:=r;cases e;exact⟨a,_,rfl,qW k,.list a true vs xs q k z⟩
 |lst xs=>unfold Rep at r;obtain⟨a,vs,rfl,q,k,z⟩:=r;cases e;exact⟨a,_,rfl,qW k,.list a false vs xs q k z⟩
 |tup xs=>cases e
 |ob o=>cases e
theorem QEs.len{n:Nat}{xs:List TB}{ws:List V}(q:QEs gl A X n xs ws h M):xs.length=ws.length:=by
 have:=qB (reps_iff.mp q.1);simpa using this
end
section
variable{gl:List T}{P:Nat->List T->Mem->PR (TB×Mem)}{F:Nat->List V->AH->RV}
variable (hF:∀f ts ws A X h M,RelM gl A X h M->qQ A X h ts ws->Sim gl A X h (QE gl A X h.length) (P f ts M) (F f ws h))
include hF
mutual
theorem qX:∀(e:E) (A X:List Nat) (h:AH) (M:Mem) (σ:TS) (σh:List (Option V)),RelM gl A X h M->jc A X h σ σh->Sim gl A X h (QE gl A X h.length) (pe gl P e σ M) (ev F e σh h)
 | .var i,A,X,h,M,σ,σh,R,rs=>by
  rw[pe,ev];dsimp only;split
  ·rename_i t e;obtain⟨w,ew,r⟩:=L9 rs e;rw[ew];exact B9 R r
  ·exact Sim.stuck
 | .dnew,A,X,h,M,σ,σh,R,rs=>by
  unfold pe ev;have r:Rep A X (h++[O.ob (.dct [])]) (.ob (.dct [])) (.ref h.length):=by
   unfold Rep;exact⟨h.length,rfl,λz=>by have:=R.lt _ z;omega,by simp⟩
  exact⟨_,_,rfl,Frm.app A h _,R.up _,r,λ_=>Frs.ofD R r⟩
 | .cst v,A,X,h,M,σ,σh,R,rs=>by
  rw[pe,ev];dsimp only;split
  ·rename_i e;exact qF R e
  ·exact Sim.stuck
 | .glob g,A,X,h,M,σ,σh,R,rs=>by
  rw[pe,ev];dsimp only;split
  ·rename_i t e;exact B9 R (R.glo g t e)
  ·exact Sim.stuck
 | .bin op a b,A,X,h,M,σ,σh,R,rs=>by
  rw[pe,ev];dsimp only;refine Sim.bind (qX a A X h M σ σh R rs) ?_;intro x M1 v h1 f1 R1 q1;dsimp only;refine Sim.bind (qX b A X h1 M1 σ σh R1 (R.keepS f1 rs)) ?_;intro y M2 w h2 f2 R2 q2;dsimp only;exact tJ λr er=>(qBy R2 er (R1.keep f2 q1.1) q2.1).le (wG f1.1 f2.1)
 | .neg a,A,X,h,M,σ,σh,R,rs=>by
  rw[pe,ev];dsimp only;refine Sim.bind (qX a A X h M σ σh R rs) ?_;intro x M1 v h1 f1 R1 q1;dsimp only;obtain⟨t,fr⟩:=x;dsimp only;split
  ·cases zf q1.1;exact qF R1 rfl
  ·exact Sim.stuck
 | .cmp op a b,A,X,h,M,σ,σh,R,rs=>by
  rw[pe,ev];dsimp only;refine Sim.bind (qX a A X h M σ σh R rs) ?_;intro x M1 v h1 f1 R1 q1;dsimp only;refine Sim.bind (qX b A X h1 M1 σ σh R1 (R.keepS f1 rs)) ?_;intro y M2 w h2 f2 R2 q2;dsimp only;refine tJ λr er=>?_;unfold l7;rw[QH R2 (R1.keep f2 q1.1) q2.1 er];exact qF R2 rfl
 | .cmp2 o1 o2 a b c,A,X,h,M,σ,σh,R,rs=>by
  rw[pe,ev];dsimp only;refine Sim.bind (qX a A X h M σ σh R rs) ?_;intro x M1 v h1 f1 R1 q1;dsimp only;refine Sim.bind (qX b A X h1 M1 σ σh R1 (R.keepS f1 rs)) ?_;intro y M2 w h2 f2 R2 q2;dsimp only;refine tJ λr er=>?_;rw[QH R2 (R1.keep f2 q1.1) q2.1 er];cases r with
  |true=>
   simp only[if_true];refine Sim.bind (qX c A X h2 M2 σ σh R2 (R1.keepS f2 (R.keepS f1 rs))) ?_;intro z M3 u h3 f3 R3 q3;dsimp only;refine tJ λr er=>?_;unfold l7;rw[QH R3 (R2.keep f3 q2.1) q3.1 er];exact qF R3 rfl
  |false=>exact qF R2 rfl
 | .cmp3 o1 o2 o3 a b c d,A,X,h,M,σ,σh,R,rs=>by
  rw[pe,ev];dsimp only;refine Sim.bind (qX a A X h M σ σh R rs) ?_;intro x M1 v h1 f1 R1 q1;dsimp only;refine Sim.bind (qX b A X h1 M1 σ σh R1 (R.keepS f1 rs)) ?_;intro y M2 w h2 f2 R2 q2;dsimp only;refine tJ λr er=>?_;rw[QH R2 (R1.keep f2 q1.1) q2.1 er];cases r with
  |true=>
   simp only[if_true];refine Sim.bind (qX c A X h2 M2 σ σh R2 (R1.keepS f2 (R.keepS f1 rs))) ?_;intro z M3 u h3 f3 R3 q3;dsimp only;refine tJ λr er=>?_;rw[QH R3 (R2.keep f3 q2.1) q3.1 er];cases r with
   |true=>
    simp only[if_true];refine Sim.bind (qX d A X h3 M3 σ σh R3 (R2.keepS f3 (R1.keepS f2 (R.keepS f1 rs)))) ?_;intro z4 M4 u4 h4 f4 R4 q4;dsimp only;refine tJ λr er=>?_;unfold l7;rw[QH R4 (R3.keep f4 q3.1) q4.1 er];exact qF R4 rfl
   |false=>exact qF R3 rfl
  |false=>exact qF R2 rfl
 | .and a b,A,X,h,M,σ,σh,R,rs=>by
  rw[pe,ev];dsimp only;refine Sim.bind (F3 (qX a A X h M σ σh R rs)) ?_;rintro x M1 v h1 f1 R1 rfl;dsimp only;cases x with
  |true=>simp only[if_true];exact(qX b A X h1 M1 σ σh R1 (R.keepS f1 rs)).le f1.1
  |false=>exact qF R1 rfl
 | .or a b,A,X,h,M,σ,σh,R,rs=>by
  rw[pe,ev];dsimp only;refine Sim.bind (F3 (qX a A X h M σ σh R rs)) ?_;rintro x M1 v h1 f1 R1 rfl;dsimp only;cases x with
  |false=>simp only[vR,if_false];exact(qX b A X h1 M1 σ σh R1 (R.keepS f1 rs)).le f1.1
  |true=>exact qF R1 rfl
 | .not a,A,X,h,M,σ,σh,R,rs=>by
  rw[pe,ev];dsimp only;refine Sim.bind (F3 (qX a A X h M σ σh R rs)) ?_;rintro x M1 v h1 f1 R1 rfl;dsimp only;exact qF R1 rfl
 | .ite c a b,A,X,h,M,σ,σh,R,rs=>by
  rw[pe,ev];dsimp only;refine Sim.bind (F3 (qX c A X h M σ σh R rs)) ?_;rintro x M1 v h1 f1 R1 rfl;dsimp only;cases x with
  |true=>simp only[if_true];exact(qX a A X h1 M1 σ σh R1 (R.keepS f1 rs)).le f1.1
  |false=>simp only[vR,if_false];exact(qX b A X h1 M1 σ σh R1 (R.keepS f1 rs)).le f1.1
 | .call f as,A,X,h,M,σ,σh,R,rs=>by
  rw[pe,ev];dsimp only;refine Sim.bind (ja as A X h M σ σh R rs) ?_;intro x M1 v h1 f1 R1 q1;dsimp only;exact(hF f _ _ A X h1 M1 R1 q1.1).nx.le f1.1
 | .blt f as,A,X,h,M,σ,σh,R,rs=>by
  rw[pe,ev];dsimp only;refine Sim.bind (ja as A X h M σ σh R rs) ?_;intro x M1 v h1 f1 R1 q1;dsimp only;exact tJ λr er=>(qCS R1 q1.1 er).le f1.1
 | .isi a ts,A,X,h,M,σ,σh,R,rs=>by
  rw[pe,ev];dsimp only;refine Sim.bind (qX a A X h M σ σh R rs) ?_;intro x M1 v h1 f1 R1 q1;dsimp only;refine tJ λr er=>?_;rw[qAK R1 q1.1 er];exact qF R1 rfl
 | .isx a cn ks,A,X,h,M,σ,σh,R,rs=>by
  rw[pe,ev];dsimp only;refine Sim.bind (qX a A X h M σ σh R rs) ?_;intro x M1 v h1 f1 R1 q1;dsimp only;refine tJ λc ec=>?_;obtain⟨t,fr⟩:=x;dsimp only at ec q1 ⊢;unfold qC7 at ec;split at ec
  ·rename_i c';split at ec
   ·rename_i hc;cases ec;have rp:=q1.1;unfold Rep at rp;obtain⟨p,rfl,_,hp⟩:=rp;unfold P8;dsimp only;have:Jb h1 p=some c:=by unfold Jb;rw[hp]
    rw[this];dsimp only;rw[if_pos hc];exact qF R1 rfl
   ·cases ec
  ·cases ec
 | .idx a b,A,X,h,M,σ,σh,R,rs=>by
  rw[pe,ev];dsimp only;refine Sim.bind (qX a A X h M σ σh R rs) ?_;intro x M1 v h1 f1 R1 q1;dsimp only;refine Sim.bind (qX b A X h1 M1 σ σh R1 (R.keepS f1 rs)) ?_;intro y M2 w h2 f2 R2 q2;dsimp only;refine tJ λr er=>?_;obtain⟨ty,fy⟩:=y;unfold zr at er;dsimp only at er;split at er
  ·rename_i i;cases zf q2.1;obtain⟨xs,e1,er⟩:=wN.mp er;obtain⟨j,e2,er⟩:=wN.mp er;obtain⟨t,e3,rfl⟩:=wA.mp er;obtain⟨p,vs,rfl,k1,k2⟩:=K5 R2 (R1.keep f2 q1.1) e1;obtain⟨u,e4,k3⟩:=zV (reps_iff.mp k2) e3;dsimp only;rw[k1];dsimp only;rw[<-qB (reps_iff.mp k2),e2];dsimp only[Option.bind_some];rw[e4];exact B9 R2 k3
  ·cases er
 | .sl a lo hi,A,X,h,M,σ,σh,R,rs=>by
  rw[pe,ev];dsimp only;refine Sim.bind (qX a A X h M σ σh R rs) ?_;intro x M1 v h1 f1 R1 q1;dsimp only;refine Sim.bind (ja lo A X h1 M1 σ σh R1 (R.keepS f1 rs)) ?_;intro y M2 w h2 f2 R2 q2;dsimp only;refine Sim.bind (ja hi A X h2 M2 σ σh R2 (R1.keepS f2 (R.keepS f1 rs))) ?_;intro z M3 u h3 f3 R3 q3;dsimp only;refine tJ λxs ex=>tJ λl el=>tJ λm em=>?_;rw[ZE (R2.keeps f3 q2.1) el,ZE q3.1 em];have rp:=R2.keep f3 (R1.keep f2 q1.1);refine tJ λr er=>?_;refine Sim.le ?_ (wG f1.1 (wG f2.1 f3.1));obtain⟨x1,x2⟩:=x;dsimp only at ex er rp ⊢;cases x1 with
  |v x=>cases ex
  |ob o=>cases ex
  |cell n=>cases er;obtain⟨p,vs,f,rfl,k1,k2⟩:=jG R3 rp ex;dsimp only;rw[qW k1];exact P3 R3 (B3 k2)
  |fz xs=>cases er;obtain⟨p,vs,f,rfl,k1,k2⟩:=jG R3 rp ex;dsimp only;rw[qW k1];exact P3 R3 (B3 k2)
  |lst xs=>cases er;obtain⟨p,vs,f,rfl,k1,k2⟩:=jG R3 rp ex;dsimp only;rw[qW k1];exact P3 R3 (B3 k2)
  |tup ts=>
   cases ex;unfold Rep at rp;obtain⟨a,vs,rfl,_,q,kk⟩:=rp;have ln:=qB (reps_iff.mp kk);dsimp only;rw[show qL h3 a=none by unfold qL;rw[q],show qg h3 a=some vs by unfold qg;rw[q]];dsimp only;unfold qCX at er;dsimp only at er;rw[ln]at er;split at er
   ·cases er
   ·rename_i hw;cases er;rw[if_neg hw];exact D4 R3 (B3 kk) λe=>Frss.of_lf R3 (B3 kk) e
 | .lst as,A,X,h,M,σ,σh,R,rs=>by
  rw[pe,ev];dsimp only;refine Sim.bind (ja as A X h M σ σh R rs) ?_;intro x M1 v h1 f1 R1 q1;dsimp only;rw[<-q1.len];split
  ·exact Zu R1 q1.1 f1.1 q1.2
  ·exact Sim.stuck
 | .tup as,A,X,h,M,σ,σh,R,rs=>by
  rw[pe,ev];dsimp only;refine Sim.bind (ja as A X h M σ σh R rs) ?_;intro x M1 v h1 f1 R1 q1;dsimp only;rw[<-q1.len];split
  ·exact D4 R1 q1.1 q1.2
  ·exact Sim.stuck
 | .comp it src g c e,A,X,h,M,σ,σh,R,rs=>by
  rw[pe,ev];dsimp only;refine Sim.bind (qAm it A X h M σ σh R rs) ?_;intro s M1 sh h1 f1 R1 q1;dsimp only;have hn:∀a o,a∉X->h1[a]?=some o->a∉h1.length::X/\(h1++[O.lst false []])[a]?=some o:=λa o x y=>⟨by
   rw[wL];rintro(z|z)
   ·have:=qP y;omega
   ·exact x z,by rw[wD (qP y)];exact y⟩
  have sr:QT A (h1.length::X) (h1++[O.lst false []]) sh s.1 s.2:=p8 q1 hn λn a o _ y=>by rw[wD (qP y)];exact y
  rw[K6 sr];dsimp only;refine(Zr (its:=s.1) (λX h M σ σh R rs=>qDR c A X h M σ σh R rs) (λX h M σ σh R rs=>qX e A X h M σ σh R rs) (wF h1.length) (λz=>wl _ (R1.lt _ z)) R1.sub s.1 0 [] [] true [] (h1.length::X) _ _ M1 _ rfl (vv _) (by simp) (Frm.app A h1 _) (R1.addX λa=>wL) sr (by simp) (by unfold qQ;rfl) ?_ ?_).le f1.1
  ·exact λ_=>⟨by unfold FPs;exact⟨rfl,rfl⟩,vi,λa ha=>by simp at ha⟩
  ·exact zv (λ_ _ e=>e) hn (QP (R.keepS f1 rs) src)
 | .app a b,A,X,h,M,σ,σh,R,rs=>by
  rw[pe,ev];dsimp only;refine Sim.bind (qX a A X h M σ σh R rs) ?_;intro x M1 v h1 f1 R1 q1;dsimp only;obtain⟨t,fr⟩:=x;dsimp only;split
  ·rename_i n;have q:=q1.1;unfold Rep at q;obtain⟨p,ep,rfl⟩:=q;obtain⟨ts,vs,e1,e2,e3⟩:=R1.at_ n p ep;dsimp only;rw[qW e2];dsimp only;refine Sim.bind (qX b A X h1 M1 σ σh R1 (R.keepS f1 rs)) ?_;intro y M2 w h2 f2 R2 q2;dsimp only;obtain⟨ts2,vs2,g1,g2,g3⟩:=R2.at_ n p ep;rw[g1,show zM h2 p=some vs2 by unfold zM;rw[g2]];dsimp only;rw[<-qB (reps_iff.mp g3)];split
   ·have r1:QV (Rep A X h2) [y.1] [w]:=⟨w,[],rfl,q2.1,rfl⟩
    obtain⟨R4,f4⟩:=R2.put ep (reps_iff.mpr (zi (reps_iff.mp g3) r1));have r:Rep A X (h2.set p (.lst false (vs2++[w]))) (.v .non) .non:=by unfold Rep;exact⟨rfl,rfl⟩
    exact⟨.non,_,rfl,f4,R4,r,λ_=>Frs.of_lf R4 r rfl⟩
   ·exact Sim.stuck
  ·exact Sim.stuck
 | .lrng a,A,X,h,M,σ,σh,R,rs=>by
  rw[pe,ev];dsimp only;refine Sim.bind (qX a A X h M σ σh R rs) ?_;intro x M1 v h1 f1 R1 q1;dsimp only;obtain⟨t,fr⟩:=x;dsimp only;split
  ·rename_i j;cases zf q1.1;dsimp only;split
   ·have r:qQ A X h1 (zO 0 j.toNat) (jZ 0 j.toNat):=by
     have e:zO 0 j.toNat=(jZ 0 j.toNat).map .v:=by unfold zO jZ;rw[wx];rfl
     rw[e];exact jr (by simp[jZ,flat])
    exact(Zu (f:=true) R1 r (wF _) λ_=>Frss.of_lf R1 r (Q0 0 _)).le f1.1
   ·exact Sim.stuck
  ·exact Sim.stuck
 | .meth m a as,A,X,h,M,σ,σh,R,rs=>by
  rw[pe,ev];dsimp only;refine Sim.bind (qX a A X h M σ σh R rs) ?_;intro x M1 v h1 f1 R1 q1;dsimp only;obtain⟨t,fr⟩:=x;dsimp only;split
  ·rename_i n;have q:=q1.1;unfold Rep at q;obtain⟨p,ep,rfl⟩:=q;obtain⟨ts,vs,e1,e2,e3⟩:=R1.at_ n p ep;dsimp only;rw[qW e2];dsimp only;refine Sim.bind (ja as A X h1 M1 σ σh R1 (R.keepS f1 rs)) ?_;intro y M2 w h2 f2 R2 q2;dsimp only;exact(u9 R2 ep q2.1).le (wG f1.1 f2.1)
  ·exact Sim.stuck
theorem ja:∀(e:Es) (A X:List Nat) (h:AH) (M:Mem) (σ:TS) (σh:List (Option V)),RelM gl A X h M->jc A X h σ σh->Sim gl A X h (QEs gl A X h.length) (pes gl P e σ M) (evs F e σh h)
 | .nil,A,X,h,M,σ,σh,R,rs=>by
  rw[pes,evs];have r:qQ A X h [] []:=by unfold qQ;rfl
  exact⟨[],h,rfl,Frm.refl A h,R,r,λ_=>Frss.of_lf R r rfl⟩
 | .cons a as,A,X,h,M,σ,σh,R,rs=>by
  rw[pes,evs];dsimp only;refine Sim.bind (qX a A X h M σ σh R rs) ?_;intro x M1 v h1 f1 R1 q1;dsimp only;obtain⟨fp1,hp1,R1',hlt1⟩:∃fp1:List Nat,(x.2=true->FP X h1 x.1 v fp1/\fp1.Nodup)/\RelM gl A (X++fp1) h1 M1/\∀a∈fp1,h.length<=a:=by
   cases hx2:x.2 with
   |true=>
    obtain⟨fp2,a,b,c,d,_⟩:=q1.2 hx2;exact⟨fp2,λ_=>⟨a,b⟩,d,c⟩
   |false=>exact⟨[],(λz=>by cases z),by rw[wO];exact R1,λa ha=>by simp at ha⟩
  have hX:∀a∈X,a∈X++fp1:=λa z=>wP _ z;have hn:∀a o,a∉X->h[a]?=some o->a∉X++fp1/\h1[a]?=some o:=λa o x y=>⟨by
   rw[wJ];rintro(z|z)
   ·exact x z
   ·have:=hlt1 a z;have:=qP y;omega,(R.keepN f1 a o x y).2⟩
  refine Sim.bindW hX R.sub (Frm.refl A h1) (ja as A (X++fp1) h1 M1 σ σh R1' (zv (λ_ _ e=>e) hn rs)) ?_;intro y M2 w h2 f2 R2 q2;dsimp only;refine⟨_,h2,rfl,f2,R2.weak hX R.sub,?_,λe=>?_⟩
  ·show qQ A X h2 (x.1::y.map (·.1)) (v::w);unfold qQ;exact⟨v,w,rfl,R1.keep f2 q1.1,qT (λ_ _ e=>e) (λa o x y=>⟨λz=>x (hX _ z),y⟩) _ q2.1⟩
  ·rw[List.all_cons,wC]at e;obtain⟨a1,b1⟩:=hp1 e.1;obtain⟨fp2,a2,b2,c2,d2⟩:=q2.2 e.2;refine⟨fp1++fp2,?_,?_,?_,by rw[<-wV];exact d2⟩
   ·show FPs X h2 (x.1::y.map (·.1)) (v::w) _;unfold FPs;exact⟨v,w,fp1,fp2,rfl,Za (R1.keepN f2) _ a1,zy (λa o x y=>⟨λz=>x (hX _ z),y⟩) _ a2,rfl⟩
   ·rw[wp];refine⟨b1,b2,?_⟩;rintro a ha b hb rfl;exact(QI _ a2 a hb).1 (wS _ ha)
   ·intro a ha;rcases wJ.mp ha with z|z
    ·exact hlt1 a z
    ·exact wG f1.1 (c2 a z)
theorem qDR:∀(e:Es) (A X:List Nat) (h:AH) (M:Mem) (σ:TS) (σh:List (Option V)),RelM gl A X h M->jc A X h σ σh->Sim gl A X h (λb b' _ _=>b=b') (pec gl P e σ M) (evc F e σh h)
 | .nil,A,X,h,M,σ,σh,R,rs=>by
  rw[pec,evc];exact⟨true,h,rfl,Frm.refl A h,R,rfl⟩
 | .cons a as,A,X,h,M,σ,σh,R,rs=>by
  rw[pec,evc];exact F3 (qX a A X h M σ σh R rs)
theorem qAm:∀(e:Itr) (A X:List Nat) (h:AH) (M:Mem) (σ:TS) (σh:List (Option V)),RelM gl A X h M->jc A X h σ σh->Sim gl A X h (λs sh h' _=>QT A X h' sh s.1 s.2) (pei gl P e σ M) (evi F e σh h)
 | .list a,A,X,h,M,σ,σh,R,rs=>by
  rw[pei,evi];dsimp only;refine Sim.bind (qX a A X h M σ σh R rs) ?_;intro x M1 v h1 f1 R1 q1;dsimp only;refine tJ λs es=>?_;obtain⟨p,sh,rfl,e1,e2⟩:=qCg R1 q1.1 es;exact⟨sh,h1,e1,Frm.refl A h1,R1,e2⟩
 | .rng1 a,A,X,h,M,σ,σh,R,rs=>by
  rw[pei,evi];dsimp only;refine Sim.bind (qX a A X h M σ σh R rs) ?_;intro x M1 v h1 f1 R1 q1;dsimp only;obtain⟨t,fr⟩:=x;dsimp only;split
  ·cases zf q1.1;dsimp only;split
   ·exact⟨_,h1,rfl,Frm.refl A h1,R1,.rng 0 _⟩
   ·exact Sim.stuck
  ·exact Sim.stuck
 | .zip a b,A,X,h,M,σ,σh,R,rs=>by
  rw[pei,evi];dsimp only;refine Sim.bind (qX a A X h M σ σh R rs) ?_;intro x M1 v h1 f1 R1 q1;dsimp only;refine Sim.bind (qX b A X h1 M1 σ σh R1 (R.keepS f1 rs)) ?_;intro y M2 w h2 f2 R2 q2;dsimp only;refine tJ λs es=>tJ λt et=>?_;obtain⟨p,vs,rfl,e1,e2⟩:=Zs R2 (R1.keep f2 q1.1) es;obtain⟨q,us,rfl,e3,e4⟩:=Zs R2 q2.1 et;dsimp only;rw[e1,e3];exact⟨_,h2,rfl,Frm.refl A h2,R2,.zip p q _ _ _ _ e2 e4⟩
 | .enum a,A,X,h,M,σ,σh,R,rs=>by
  rw[pei,evi];dsimp only;refine Sim.bind (qX a A X h M σ σh R rs) ?_;intro x M1 v h1 f1 R1 q1;dsimp only;refine tJ λs es=>?_;obtain⟨p,vs,rfl,e1,e2⟩:=Zs R1 q1.1 es;dsimp only;rw[e1];exact⟨_,h1,rfl,Frm.refl A h1,R1,.enum p _ _ e2⟩
 | .revd a,A,X,h,M,σ,σh,R,rs=>by
  rw[pei,evi];dsimp only;refine Sim.bind (qX a A X h M σ σh R rs) ?_;intro x M1 v h1 f1 R1 q1;dsimp only;refine tJ λs es=>?_;obtain⟨p,vs,rfl,e1,e2⟩:=Zs R1 q1.1 es;dsimp only;rw[e1];obtain⟨vs',e1',k1'⟩:=qy e2;have hl:vs.length=s.1.length:=by rw[e1]at e1';cases e1';exact(qB (reps_iff.mp k1')).symm
  dsimp only;rw[hl];exact⟨_,h1,rfl,Frm.refl A h1,R1,.rvd p _ _ e2⟩
end
end
mutual
theorem Z5{X Af Xf:List Nat}{h:AH}(hX:∀a o,(∀vs,o≠O.lst false vs)->h[a]?=some o->a∉X->a∉Xf):∀(t:T) (n:Nat){w:V}{fp:List Nat},FP X h t w fp->(∀(k:Nat) a,fp[k]?=some a->Af[n+k]?=some a) ->
  (thaw n t).2.length=fp.length/\Rep Af Xf h (thaw n t).1 w/\∀(k:Nat) ts',(thaw n t).2[k]?=some ts'->∃a vs,fp[k]?=some a/\h[a]?=some (.lst false vs)/\qQ Af Xf h ts' vs
 | .v x,n,w,fp,p,ha=>by unfold FP at p;obtain⟨p1,rfl⟩:=p;rw[show thaw n (.v x)=(.v x,[]) by simp[thaw]];exact⟨rfl,by unfold Rep;exact p1,λk ts' e=>by simp at e⟩
 | .cell _,n,w,fp,p,ha=>by unfold FP at p;exact p.elim
 | .ob o,n,w,fp,p,ha=>by unfold FP at p;obtain⟨⟨a,rfl,q1,q2⟩,rfl⟩:=p;rw[show thaw n (.ob o)=(.ob o,[]) by simp[thaw]];exact⟨rfl,by unfold Rep;exact⟨a,rfl,hX a _ (by intro _ z;cases z) q2 q1,q2⟩,λk ts' e=>by simp at e⟩
 | .fz _,n,w,fp,p,ha=>by unfold FP at p;exact p.elim
 | .lst ts,n,w,fp,p,ha=>by
  unfold FP at p;obtain⟨a,vs,f,rfl,q1,q2,q3,rfl⟩:=p;obtain⟨l,r,c⟩:=JP hX ts n q3 (λk a e=>ha k a (by rw[wD (wB.mp e).1];exact e));rw[thaw];refine⟨by simp[l],?_,λk ts' e=>?_⟩
  ·show Rep Af Xf h (.cell _) _;unfold Rep;refine⟨a,ha _ a ?_,rfl⟩;rw[l,wQ (wF _),vj];rfl
  ·dsimp only at e;by_cases hk:k<f.length
   ·rw[wD (by rw[l];exact hk)]at e;obtain⟨b,us,e1,e2,e3⟩:=c k ts' e;exact⟨b,us,by rw[wD hk];exact e1,e2,e3⟩
   ·rw[wQ (by rw[l];omega),l]at e;have hk2:k-f.length=0:=by
     have:=(wB.mp e).1;simp at this;omega
    rw[hk2]at e;simp at e;subst e;exact⟨a,vs,by rw[wQ (by omega),hk2];rfl,q2,r⟩
 | .tup ts,n,w,fp,p,ha=>by
  unfold FP at p;obtain⟨a,vs,rfl,q1,q2,q3⟩:=p;obtain⟨l,r,c⟩:=JP hX ts n q3 ha;rw[thaw];refine⟨l,?_,c⟩;show Rep Af Xf h (.tup _) _;unfold Rep;exact⟨a,vs,rfl,hX a _ (by intro _ z;cases z) q2 q1,q2,r⟩
theorem JP{X Af Xf:List Nat}{h:AH}(hX:∀a o,(∀vs,o≠O.lst false vs)->h[a]?=some o->a∉X->a∉Xf):∀(ts:List T) (n:Nat){ws:List V}{fp:List Nat},FPs X h ts ws fp->(∀(k:Nat) a,fp[k]?=some a->Af[n+k]?=some a) ->
  (Qb n ts).2.length=fp.length/\qQ Af Xf h (Qb n ts).1 ws/\∀(k:Nat) ts',(Qb n ts).2[k]?=some ts'->∃a vs,fp[k]?=some a/\h[a]?=some (.lst false vs)/\qQ Af Xf h ts' vs
 | [],n,ws,fp,p,ha=>by unfold FPs at p;obtain⟨rfl,rfl⟩:=p;rw[Qb];exact⟨rfl,by unfold qQ;rfl,λk ts' e=>by simp at e⟩
 |t::ts,n,ws,fp,p,ha=>by
  unfold FPs at p;obtain⟨v,vs,f1,f2,rfl,q1,q2,rfl⟩:=p;obtain⟨l1,r1,c1⟩:=Z5 hX t n q1 (λk a e=>ha k a (by rw[wD (wB.mp e).1];exact e));obtain⟨l2,r2,c2⟩:=JP hX ts (n+(thaw n t).2.length) q2 (λk a e=>by
   have:=ha (f1.length+k) a (by rw[wQ (by omega),ve];exact e);rw[l1,Nat.add_assoc];exact this)
  rw[Qb];refine⟨by dsimp only;rw[wT,wT,l2,l1],?_,λk ts' e=>?_⟩
  ·show qQ Af Xf h (_::_) _;unfold qQ;exact⟨v,vs,rfl,r1,r2⟩
  ·dsimp only at e;by_cases hk:k<f1.length
   ·rw[wD (by rw[l1];exact hk)]at e;obtain⟨b,us,e1,e2,e3⟩:=c1 k ts' e;exact⟨b,us,by rw[wD hk];exact e1,e2,e3⟩
   ·rw[wQ (by rw[l1];omega)]at e;obtain⟨b,us,e1,e2,e3⟩:=c2 _ ts' e;rw[l1]at e1;exact⟨b,us,by rw[wQ (by omega)];exact e1,e2,e3⟩
end
theorem RelM.thaw{gl:List T}{A X fp:List Nat}{h:AH}{M:Mem}{t:T}{w:V}(R:RelM gl A (X++fp) h M)(hA:∀a∈A,a∈X)(p:FP X h t w fp)(nd:fp.Nodup):
  RelM gl (A++fp) (X++fp) h (M++(_P.thaw M.length t).2)/\Rep (A++fp) (X++fp) h (_P.thaw M.length t).1 w:=by
 have hX:∀a o,(∀vs,o≠O.lst false vs)->h[a]?=some o->a∉X->a∉X++fp:=λa o hno e x=>by
  rw[wJ];rintro(z|z)
  ·exact x z
  ·obtain⟨_,us,e2⟩:=J8 t p a z;rw[e]at e2;cases e2;exact hno _ rfl
 obtain⟨l,r,c⟩:=Z5 (Af:=A++fp) hX t M.length p (λk a e=>by rw[<-R.len,wQ (by omega),ve];exact e);refine⟨⟨by simp[R.len,l],?_,?_,R.lt,λn a e=>?_,λg t e=>?_⟩,r⟩
 ·rw[wp];exact⟨R.nd,nd,by rintro a ha b hb rfl;exact(J8 t p a hb).1 (hA a ha)⟩
 ·intro a ha;rcases wJ.mp ha with z|z
  ·exact wP _ (hA a z)
  ·exact wS _ z
 ·by_cases hn:n<A.length
  ·rw[wD hn]at e;obtain⟨ts,vs,e1,e2,e3⟩:=R.at_ n a e;exact⟨ts,vs,by rw[wD (by rw[<-R.len];exact hn)];exact e1,e2,qT (λk b eb=>by rw[wD (wB.mp eb).1];exact eb) (λa o x y=>⟨x,y⟩) ts e3⟩
  ·rw[wQ (by omega)]at e;have hk:n-A.length<(_P.thaw M.length t).2.length:=by rw[l];exact(wB.mp e).1
   obtain⟨b,us,e1,e2,e3⟩:=c (n-A.length) _ (wE hk);rw[e]at e1;cases e1;have hnm:n-M.length=n-A.length:=by rw[R.len]
   exact⟨_,us,by rw[wQ (by rw[<-R.len];omega),hnm];exact wE hk,e2,e3⟩
 ·exact zg (λk b eb=>by rw[wD (wB.mp eb).1];exact eb) (λa o x y=>⟨x,y⟩) t (R.glo g t e)
theorem B0{A X:List Nat}{h:AH}(n:Nat):∀{ts:List T}{ws:List V},qQ A X h ts ws->jc A X h (ts.map some++List.replicate n none) (ws.map some++List.replicate n none)
 | [],ws,r=>by
  unfold qQ at r;subst r;show jc A X h (List.replicate n none) (List.replicate n none)
  induction n with
  |zero=>rfl
  |succ n ih=>exact⟨none,_,rfl,trivial,ih⟩
 |t::ts,ws,r=>by
  unfold qQ at r;obtain⟨v,vs,rfl,a,b⟩:=r;exact⟨some v,_,rfl,a,B0 n b⟩
def RelO(gl:List T)(A X:List Nat)(n:Nat)(h:AH)(M:Mem):PO->Out->Prop
 | .nx σ,.nx σh=>jc A X h σ σh
 | .bk σ,.bk σh=>jc A X h σ σh
 | .ct σ,.ct σh=>jc A X h σ σh
 | .rt t,.rt w=>QE gl A X n t w h M
 |_,_=>False
theorem RelO.le{gl:List T}{A X:List Nat}{n m:Nat}{h:AH}{M:Mem}{o:PO}{oh:Out}(r:RelO gl A X n h M o oh)(l:m<=n):RelO gl A X m h M o oh:=by
 cases o<;>cases oh<;>first|exact r|exact QE.le r l
def SimS(gl:List T)(A X:List Nat)(h:AH):RSt->RS->Prop
 | .ok (o,M'),r=>∃oh h' B,r=.ok (oh,h')/\Frm A h h'/\(∀b∈B,h.length<=b)/\RelM gl (A++B) (X++B) h' M'/\RelO gl (A++B) (X++B) h.length h' M' o oh
 | .exc c M',r=>∃h' B,r=.exc c h'/\Frm A h h'/\(∀b∈B,h.length<=b)/\RelM gl (A++B) (X++B) h' M'
 | .stuck,_=>True
theorem SimS.stuck{gl:List T}{A X:List Nat}{h:AH}{r:RS}:SimS gl A X h .stuck r:=trivial
theorem SimS.mk{gl:List T}{A X:List Nat}{h:AH}{M:Mem}{o:PO}{oh:Out}(R:RelM gl A X h M)(ro:RelO gl A X h.length h M o oh):SimS gl A X h (.ok (o,M)) (.ok (oh,h)):=
 ⟨oh,h,[],rfl,Frm.refl A h,λb hb=>by simp at hb,by simpa using R,by simpa using ro⟩
theorem SimS.pre{gl:List T}{A X:List Nat}{h h1:AH}{r:RSt}{rh:RS}(s:SimS gl A X h1 r rh)(f:Frm A h h1):SimS gl A X h r rh:=by
 cases r with
 |ok p=>
  obtain⟨o,M'⟩:=p;obtain⟨oh,h',B,e,f1,hB,R,ro⟩:=s;exact⟨oh,h',B,e,f.trans f1,λb hb=>wG f.1 (hB b hb),R,ro.le f.1⟩
 |exc c M'=>
  obtain⟨h',B,e,f1,hB,R⟩:=s;exact⟨h',B,e,f.trans f1,λb hb=>wG f.1 (hB b hb),R⟩
 |stuck=>trivial
theorem Sim.bindS{α β:Type}{gl:List T}{A X:List Nat}{h:AH}{Q:α->β->AH->Mem->Prop}{r:PR (α×Mem)}{rh:Res (β×AH)}{f:α×Mem->RSt}{g:β×AH->RS}
  (s:Sim gl A X h Q r rh) (k:∀x M' y h',Frm A h h'->RelM gl A X h' M'->Q x y h' M'->SimS gl A X h' (f (x,M')) (g (y,h'))):SimS gl A X h (r.bind f) (rh.bind g):=by
 cases r with
 |ok p=>
  obtain⟨x,M'⟩:=p;obtain⟨y,h',rfl,f1,R1,q⟩:=s;exact(k x M' y h' f1 R1 q).pre f1
 |exc c M'=>
  obtain⟨h',rfl,f1,R1⟩:=s;exact⟨h',[],rfl,f1,λb hb=>by simp at hb,by simpa using R1⟩
 |stuck=>trivial
theorem SimS.bind{gl:List T}{A X:List Nat}{h:AH}{r:RSt}{rh:RS}{f:PO×Mem->RSt}{g:Out×AH->RS}
  (s:SimS gl A X h r rh) (k:∀o M' oh h' B,Frm A h h'->(∀b∈B,h.length<=b)->RelM gl (A++B) (X++B) h' M'->RelO gl (A++B) (X++B) h.length h' M' o oh->SimS gl (A++B) (X++B) h' (f (o,M')) (g (oh,h'))\/(f (o,M')=.ok (o,M')/\g (oh,h')=.ok (oh,h'))):SimS gl A X h (r.bind f) (rh.bind g):=by
 cases r with
 |ok p=>
  obtain⟨o,M'⟩:=p;obtain⟨oh,h',B,rfl,f1,hB,R,ro⟩:=s;rw[tD,tF];rcases k o M' oh h' B f1 hB R ro with s2|⟨e1,e2⟩
  ·revert s2;generalize f (o,M')=r2;generalize g (oh,h')=rh2;intro s2;cases r2 with
   |ok p2=>
    obtain⟨o2,M2⟩:=p2;obtain⟨oh2,h2,B2,rfl,f2,hB2,R2,ro2⟩:=s2;rw[wV,wV]at R2 ro2;exact⟨oh2,h2,B++B2,rfl,f1.trans2 hB f2,λb hb=>by
     rcases wJ.mp hb with z|z
     ·exact hB b z
     ·exact wG f1.1 (hB2 b z),R2,ro2.le f1.1⟩
   |exc c M2=>
    obtain⟨h2,B2,rfl,f2,hB2,R2⟩:=s2;rw[wV,wV]at R2;exact⟨h2,B++B2,rfl,f1.trans2 hB f2,λb hb=>by
     rcases wJ.mp hb with z|z
     ·exact hB b z
     ·exact wG f1.1 (hB2 b z),R2⟩
   |stuck=>trivial
  ·rw[e1,e2];exact⟨oh,h',B,rfl,f1,hB,R,ro⟩
 |exc c M'=>
  obtain⟨h',B,rfl,f1,hB,R⟩:=s;exact⟨h',B,rfl,f1,hB,R⟩
 |stuck=>trivial
theorem Ja{A X B:List Nat}{h h':AH}(hs:∀a∈A,a∈X)(f:Frm A h h')(hB:∀b∈B,h.length<=b):∀a o,a∉X->h[a]?=some o->a∉X++B/\h'[a]?=some o:=λa o x y=>⟨by
 rw[wJ];rintro(z|z)
 ·exact x z
 ·have:=hB a z;have:=qP y;omega,(f.2 a (qP y) λz=>x (hs _ z)).trans y⟩
theorem jE{A B:List Nat}:∀(n:Nat) a,A[n]?=some a->(A++B)[n]?=some a:=λn a e=>by rw[wD (wB.mp e).1];exact e
theorem j0{gl:List T}{s:Src}{its:List T}{d:jn}{g:Tg}{b:TS->Mem->RSt}{b':List (Option V)->AH->RS}
  (hb:∀A X h M σ σh,RelM gl A X h M->jc A X h σ σh->SimS gl A X h (b σ M) (b' σh h)):∀(r:List T) (i:Nat) (σ:TS) (σh:List (Option V)) (M:Mem) (h:AH) (A X:List Nat),
   its.drop i=r->i<=its.length->RelM gl A X h M->QT A X h s its d->jc A X h σ σh->SimS gl A X h (zF d g b r σ M) (O0 s g b' r.length i σh h)
 | [],i,σ,σh,M,h,A,X,hr,hi,R,sr,rs=>by
  have hi':i=its.length:=by
   have:=List.drop_eq_nil_iff.mp hr;omega
  subst hi';show SimS gl A X h (.ok (.nx σ,M)) (if jd h its.length s then _ else _);rw[if_pos (Jw sr)];exact SimS.mk R rs
 |x::r,i,σ,σh,M,h,A,X,hr,hi,R,sr,rs=>by
  have ex:its[i]?=some x:=by
   have:(its.drop i)[0]?=some x:=by rw[hr];rfl
   rwa [List.getElem?_drop,Nat.add_zero]at this
  have hi2:i+1<=its.length:=(wB.mp ex).1;have hr2:its.drop (i+1)=r:=by
   rw[<-List.drop_drop,hr];rfl
  obtain⟨w,ext,ey,rx⟩:=Zm R sr ex;have fy:Frm A h (h++ext):=Frm.app A h ext;rw[List.length_cons];unfold zF O0;rw[ey];dsimp only;cases es:zL g x σ with
  |none=>exact SimS.stuck
  |some σ1=>
   obtain⟨σh1,esh,rs1⟩:=store_ok es rx (R.keepS fy rs);rw[esh];dsimp only;refine SimS.bind ((hb A X _ M σ1 σh1 (R.up ext) rs1).pre fy) ?_;intro o M2 oh h2 B f2 hB R2 ro;have nxt:∀σ2 σh2,jc (A++B) (X++B) h2 σ2 σh2->SimS gl (A++B) (X++B) h2 (if qh d M2=true then zF d g b r σ2 M2 else .stuck) (O0 s g b' r.length (i+1) σh2 h2):=λσ2 σh2 rs2=>by
    split
    ·rename_i hd;exact j0 hb r (i+1) σ2 σh2 M2 h2 _ _ hr2 hi2 R2 (Zj sr (Ja R.sub f2 hB) R2 hd jE) rs2
    ·exact SimS.stuck
   cases o with
   |nx σ2=>cases oh<;>first|exact .inl (nxt _ _ ro)|exact ro.elim
   |ct σ2=>cases oh<;>first|exact .inl (nxt _ _ ro)|exact ro.elim
   |bk σ2=>cases oh<;>first|exact .inl (SimS.mk R2 ro)|exact ro.elim
   |rt t=>cases oh<;>first|exact .inr ⟨rfl,rfl⟩|exact ro.elim
theorem Qz{gl:List T}{c:TS->Mem->PR (Bool×Mem)}{c':List (Option V)->AH->Res (Bool×AH)}{b:TS->Mem->RSt}{b':List (Option V)->AH->RS}
  (hc:∀A X h M σ σh,RelM gl A X h M->jc A X h σ σh->Sim gl A X h (λb b' _ _=>b=b') (c σ M) (c' σh h))
  (hb:∀A X h M σ σh,RelM gl A X h M->jc A X h σ σh->SimS gl A X h (b σ M) (b' σh h)):∀(n:Nat) (σ:TS) (σh:List (Option V)) (M:Mem) (h:AH) (A X:List Nat),
   RelM gl A X h M->jc A X h σ σh->SimS gl A X h (zR c b n σ M) (jA c' b' n σh h)
 | 0,σ,σh,M,h,A,X,R,rs=>SimS.stuck
 |n+1,σ,σh,M,h,A,X,R,rs=>by
  unfold zR jA;refine Sim.bindS (hc A X h M σ σh R rs) ?_;rintro t M1 t' h1 f1 R1 rfl;dsimp only;cases t with
  |false=>exact SimS.mk R1 (R.keepS f1 rs)
  |true=>
   simp only[if_true];refine SimS.bind (hb A X h1 M1 σ σh R1 (R.keepS f1 rs)) ?_;intro o M2 oh h2 B f2 hB R2 ro;cases o with
   |nx σ2=>cases oh<;>first|exact .inl (Qz hc hb n _ _ M2 h2 _ _ R2 ro)|exact ro.elim
   |ct σ2=>cases oh<;>first|exact .inl (Qz hc hb n _ _ M2 h2 _ _ R2 ro)|exact ro.elim
   |bk σ2=>cases oh<;>first|exact .inl (SimS.mk R2 ro)|exact ro.elim
   |rt t=>cases oh<;>first|exact .inr ⟨rfl,rfl⟩|exact ro.elim
section
variable{gl:List T}{P:Nat->List T->Mem->PR (TB×Mem)}{F:Nat->List V->AH->RV}(C:List Nat)
variable (hF:∀f ts ws A X h M,RelM gl A X h M->qQ A X h ts ws->Sim gl A X h (QE gl A X h.length) (P f ts M) (F f ws h))
include hF
omit hF in
omit hF in
def qHo(gl:List T)(A X:List Nat)(h:AH):PR (TB×Mem)->RV->Prop
 | .ok ((.lst ts,_),M1),r=>∃h1 vs,r=.ok (.ref h1.length,h1++[.lst false vs])/\Frm A h h1/\RelM gl A X h1 M1/\qQ A X h1 ts vs
 |_,_=>True
omit hF in
theorem RelM.cellN{gl:List T}{A X:List Nat}{h:AH}{M:Mem}{ts:List T}{vs:List V}(R:RelM gl A X h M)(r:qQ A X h ts vs):RelM gl (A++[h.length]) (X++[h.length]) (h++[.lst false vs]) (M++[ts]):=by
 have hn:∀a o,a∉X->h[a]?=some o->a∉X++[h.length]/\(h++[O.lst false vs])[a]?=some o:=Ja R.sub (Frm.app A h _) (λb hb=>by simp at hb;omega);refine⟨by simp[R.len],?_,λa ha=>?_,λa ha=>?_,λn a e=>?_,λg t e=>zg jE hn t (R.glo g t e)⟩
 ·rw[wp];refine⟨R.nd,by simp,λa ha b hb=>?_⟩;have:=R.lt a (R.sub a ha);simp at hb;omega
 ·rcases wJ.mp ha with z|z
  ·exact wP _ (R.sub a z)
  ·exact wS _ z
 ·rcases wJ.mp ha with z|z
  ·have:=R.lt a z;simp;omega
  ·simp at z;simp[z]
 ·by_cases hlt:n<A.length
  ·rw[wD hlt]at e;obtain⟨us,ws,e1,e2,e3⟩:=R.at_ n a e;exact⟨us,ws,by rw[wD (by rw[<-R.len];exact hlt)];exact e1,by rw[wD (qP e2)];exact e2,qT jE hn us e3⟩
  ·have hl:=(wB.mp e).1;have hnn:n=A.length:=by simp at hl;omega
   subst hnn;simp at e;subst e;exact⟨ts,vs,by rw[R.len];simp,by simp,qT jE hn ts r⟩
omit hF in
theorem T0{e:E}(h:qEn e=true):(∃as,e=.lst as)\/∃a b,e=.bin .add a b:=by
 unfold qEn at h;split at h
 ·exact .inr ⟨_,_,rfl⟩
 ·exact .inl ⟨_,rfl⟩
 ·cases h
theorem qCq(e:E)(he:qEn e=true)(A X:List Nat)(h:AH)(M:Mem)(σ:TS)(σh:List (Option V))(R:RelM gl A X h M)(rs:jc A X h σ σh):qHo gl A X h (pe gl P e σ M) (ev F e σh h):=by
 rcases T0 he with⟨as,rfl⟩|⟨a,b,rfl⟩
 ·rw[pe,ev];dsimp only;have s1:=ja hF as A X h M σ σh R rs;revert s1;generalize pes gl P as σ M=r;generalize evs F as σh h=rh;intro s1;cases r with
  |stuck=>trivial
  |exc c M'=>trivial
  |ok p=>
   obtain⟨x,M1⟩:=p;obtain⟨w,h1,rfl,f1,R1,q⟩:=s1;rw[tD,tF];dsimp only;rw[<-q.len];split
   ·exact⟨h1,w,rfl,f1,R1,q.1⟩
   ·trivial
 ·rw[pe,ev];dsimp only;have s1:=qX hF a A X h M σ σh R rs;revert s1;generalize pe gl P a σ M=r;generalize ev F a σh h=rh;intro s1;cases r with
  |stuck=>trivial
  |exc c M'=>trivial
  |ok p=>
   obtain⟨x,M1⟩:=p;obtain⟨v,h1,rfl,f1,R1,q1⟩:=s1;rw[tD,tF];dsimp only;have s2:=qX hF b A X h1 M1 σ σh R1 (R.keepS f1 rs);revert s2;generalize pe gl P b σ M1=r;generalize ev F b σh h1=rh;intro s2;cases r with
   |stuck=>trivial
   |exc c M'=>trivial
   |ok p=>
    obtain⟨y,M2⟩:=p;obtain⟨w,h2,rfl,f2,R2,q2⟩:=s2;rw[tD,tF];dsimp only;have rx:=R1.keep f2 q1.1;cases eb:qq M2 .add x.1 y.1 with
    |none=>trivial
    |some r=>
     rw[PR.ofO_some,tD];unfold qq at eb;split at eb
     ·cases eb;trivial
     ·cases eb
     ·rename_i e1 e2;dsimp only at eb;split at eb
      ·split at eb
       ·cases eb;trivial
       ·cases eb
      rename_i u0 u1 u2;clear u2;obtain⟨xs,m1,eb⟩:=wN.mp eb;obtain⟨ys,m2,eb⟩:=wN.mp eb;split at eb
      ·rename_i hl;cases eb;obtain⟨a1,vs,rfl,g1,k1⟩:=P7 R2 rx m1;obtain⟨a2,us,rfl,g2,k2⟩:=P7 R2 q2.1 m2;refine⟨h2,vs++us,?_,f1.trans f2,R2,reps_iff.mpr (zi (reps_iff.mp k1) (reps_iff.mp k2))⟩;show (match zM h2 a1,zM h2 a2 with|some xs,some ys=>if xs.length+ys.length<=lim then newL (xs++ys) h2 else .stuck|_,_=>_)=_;rw[g1,g2];dsimp only;rw[<-qB (reps_iff.mp k1),<-qB (reps_iff.mp k2),if_pos hl];rfl
      ·cases eb
     ·cases eb
omit hF in
omit hF in
omit hF in
omit hF in
omit hF in
omit hF in
omit hF in
omit hF in
def SimN(gl:List T)(A X:List Nat)(D n0:Nat)(h:AH):RSt->RS->Prop
 | .ok (o,M'),r=>∃oh h',r=.ok (oh,h')/\Frm (A++[D]) h h'/\RelM gl A X h' M'/\RelO gl A X n0 h' M' o oh
 | .exc _ _,_=>False
 | .stuck,_=>True
omit hF in
theorem SimN.pre{A X:List Nat}{D n0:Nat}{h h1:AH}{r:RSt}{rh:RS}(s:SimN gl A X D n0 h1 r rh)(f:Frm (A++[D]) h h1):SimN gl A X D n0 h r rh:=by
 match r,s with
 | .ok (o,M'),⟨oh,h',e,f1,R,ro⟩=>exact⟨oh,h',e,f.trans f1,R,ro⟩
 | .exc _ _,z=>exact z.elim
 | .stuck,_=>trivial
omit hF in
theorem Frm.more{A:List Nat}{D:Nat}{h h':AH}(f:Frm A h h'):Frm (A++[D]) h h':=⟨f.1,λj hj hA=>f.2 j hj λz=>hA (wP _ z)⟩
mutual
theorem qD2:∀(s:S) (A X:List Nat) (h:AH) (M:Mem) (σ:TS) (σh:List (Option V)),RelM gl A X h M->jc A X h σ σh->SimS gl A X h (px gl P C s σ M) (ex F s σh h)
 | .asg g e,A,X,h,M,σ,σh,R,rs=>by
  rw[px,ex];dsimp only;have se:=qX hF e A X h M σ σh R rs;have tp:=λhe=>qCq hF e he A X h M σ σh R rs;revert se tp;generalize pe gl P e σ M=r;generalize ev F e σh h=rh;intro se tp;cases r with
  |stuck=>trivial
  |exc c M'=>
   obtain⟨h',rfl,f1,R1⟩:=se;exact⟨h',[],rfl,f1,λb hb=>by simp at hb,by simpa using R1⟩
  |ok p=>
   obtain⟨x,M1⟩:=p;obtain⟨w,h1,rfl,f1,R1,q⟩:=se;rw[tD,tF];dsimp only;have gen:∀{g:Tg}{σ1:TS},zL g x.1 σ=some σ1->SimS gl A X h (.ok (.nx σ1,M1)) (match store g w σh h1 with|some σ1=>.ok (.nx σ1,h1)|none=>.stuck):=λe=>by
    obtain⟨σh1,e2,rs2⟩:=store_ok e q.1 (R.keepS f1 rs);rw[e2];exact(SimS.mk (o:=.nx _) (oh:=.nx _) R1 rs2).pre f1
   cases g with
   |name i=>
    dsimp only;split
    ·rename_i hc;rw[wC]at hc;obtain⟨fp,p,nd,l,R',_⟩:=q.2 hc.2;obtain⟨R2,r2⟩:=R'.thaw R.sub p nd;refine⟨.nx (σh.set i (some w)),h1,fp,rfl,f1,l,R2,?_⟩;exact zU i (zv jE (Ja R.sub f1 l) rs) (show qA7 _ _ h1 (some _) (some w) from r2)
    ·split
     ·rename_i hc;rw[wC]at hc;have tp:=tp hc.2;obtain⟨x1,x2⟩:=x;dsimp only;split
      ·rename_i ts;obtain⟨h0,vs,e0,f0,R0,r0⟩:=tp;cases e0;refine⟨.nx (σh.set i (some (.ref h0.length))),_,[h0.length],rfl,f0.trans (Frm.app A h0 _),λb hb=>by simp at hb;have:=f0.1;omega,R0.cellN r0,?_⟩;refine zU i (zv jE (Ja R0.sub (Frm.app A h0 _) (λb hb=>by simp at hb;omega)) (R.keepS f0 rs)) (show qA7 _ _ _ (some _) (some _) from ?_);have rc:Rep (A++[h0.length]) (X++[h0.length]) (h0++[O.lst false vs]) (.cell M1.length) (.ref h0.length):=by
        unfold Rep;exact⟨h0.length,by rw[<-R0.len];simp,rfl⟩
       exact rc
      ·exact SimS.stuck
     ·exact gen (g:=.name i) rfl
   |tup is=>
    dsimp only;split
    ·rename_i σ1 e;exact gen e
    ·exact SimS.stuck
 | .par i j a b,A,X,h,M,σ,σh,R,rs=>by
  rw[px,ex];dsimp only;refine Sim.bindS (qX hF a A X h M σ σh R rs) ?_;intro x M1 v h1 f1 R1 q1;dsimp only;refine Sim.bindS (qX hF b A X h1 M1 σ σh R1 (R.keepS f1 rs)) ?_;intro y M2 w h2 f2 R2 q2;dsimp only;refine SimS.mk R2 ?_;exact zU j (zU i (R1.keepS f2 (R.keepS f1 rs)) (show qA7 _ _ h2 (some _) (some v) from R1.keep f2 q1.1)) (show qA7 _ _ h2 (some _) (some w) from q2.1)
 | .put o i v,A,X,h,M,σ,σh,R,rs=>by
  rw[px,ex];dsimp only;refine Sim.bindS (qX hF v A X h M σ σh R rs) ?_;intro x M1 vx h1 f1 R1 q1;dsimp only;refine Sim.bindS (qX hF o A X h1 M1 σ σh R1 (R.keepS f1 rs)) ?_;intro y M2 w h2 f2 R2 q2;dsimp only;refine Sim.bindS (qX hF i A X h2 M2 σ σh R2 (R1.keepS f2 (R.keepS f1 rs))) ?_;intro z M3 u h3 f3 R3 q3;dsimp only;obtain⟨ty,fy⟩:=y;obtain⟨tz,fz⟩:=z;dsimp only;split
  ·rename_i n k;cases zf q3.1;have q:=R2.keep f3 q2.1;unfold Rep at q;obtain⟨p,ep,rfl⟩:=q;obtain⟨ts2,vs2,g1,g2,g3⟩:=R3.at_ n p ep;rw[g1];dsimp only;rw[show zM h3 p=some vs2 by unfold zM;rw[g2]];dsimp only;rw[<-qB (reps_iff.mp g3)];split
   ·rename_i j ej
    try simp only[ej]
    obtain⟨R4,f4⟩:=R3.put ep (reps_iff.mpr (zU j (reps_iff.mp g3) (R2.keep f3 (R1.keep f2 q1.1))));exact(SimS.mk (o:=.nx σ) (oh:=.nx σh) R4 (R3.keepS f4 (R2.keepS f3 (R1.keepS f2 (R.keepS f1 rs))))).pre f4
   ·exact SimS.stuck
  ·exact SimS.stuck
 | .expr e,A,X,h,M,σ,σh,R,rs=>by
  rw[px,ex];dsimp only;refine Sim.bindS (qX hF e A X h M σ σh R rs) ?_;intro x M1 v h1 f1 R1 q1;dsimp only;exact SimS.mk (o:=.nx σ) (oh:=.nx σh) R1 (R.keepS f1 rs)
 | .ret e,A,X,h,M,σ,σh,R,rs=>by
  rw[px,ex];dsimp only;have se:=qX hF e A X h M σ σh R rs;revert se;generalize pe gl P e σ M=r;generalize ev F e σh h=rh;intro se;cases r with
  |stuck=>trivial
  |exc c M'=>
   obtain⟨h',rfl,f1,R1⟩:=se;exact⟨h',[],rfl,f1,λb hb=>by simp at hb,by simpa using R1⟩
  |ok p=>
   obtain⟨x,M1⟩:=p;obtain⟨w,h1,rfl,f1,R1,q⟩:=se;exact⟨.rt w,h1,[],rfl,f1,λb hb=>by simp at hb,by simpa using R1,by simpa using (show RelO gl A X h.length h1 M1 (.rt x) (.rt w) from q)⟩
 | .ifs c t u,A,X,h,M,σ,σh,R,rs=>by
  rw[px,ex];dsimp only;refine Sim.bindS (F3 (qX hF c A X h M σ σh R rs)) ?_;rintro x M1 v h1 f1 R1 rfl;dsimp only;cases x with
  |true=>simp only[if_true];exact ZZ t A X h1 M1 σ σh R1 (R.keepS f1 rs)
  |false=>simp only[vR,if_false];exact ZZ u A X h1 M1 σ σh R1 (R.keepS f1 rs)
 | .for_ g it b,A,X,h,M,σ,σh,R,rs=>by
  rw[px,ex];dsimp only;refine Sim.bindS (qAm hF it A X h M σ σh R rs) ?_;intro s M1 sh h1 f1 R1 q1;dsimp only;rw[K6 q1];exact j0 (λA X h M σ σh R rs=>ZZ b A X h M σ σh R rs) s.1 0 σ σh M1 h1 A X rfl (vv _) R1 q1 (R.keepS f1 rs)
 | .while_ c b,A,X,h,M,σ,σh,R,rs=>by
  rw[px,ex];dsimp only;exact Qz (λA X h M σ σh R rs=>F3 (qX hF c A X h M σ σh R rs)) (λA X h M σ σh R rs=>ZZ b A X h M σ σh R rs) qAw σ σh M h A X R rs
 | .xexpr f as,A,X,h,M,σ,σh,R,rs=>by
  rw[px,ex];dsimp only;refine Sim.bindS (ja hF as A X h M σ σh R rs) ?_;intro x M1 v h1 f1 R1 q1;dsimp only;refine Sim.bindS (hF f _ _ A X h1 M1 R1 q1.1) ?_;intro y M2 w h2 f2 R2 q2;dsimp only;exact SimS.mk R2 (R1.keepS f2 (R.keepS f1 rs))
 | .raise c,A,X,h,M,σ,σh,R,rs=>by
  rw[px,ex];exact⟨h,[],rfl,Frm.refl A h,λb hb=>by simp at hb,by simpa using R⟩
 | .tryE b e i cn,A,X,h,M,σ,σh,R,rs=>by
  rw[px,ex];dsimp only;have sb:=qD2 b A X h M σ σh R rs;revert sb;generalize px gl P C b σ M=r;generalize ex F b σh h=rh;intro sb;cases r with
  |stuck=>trivial
  |ok p=>
   obtain⟨o,M'⟩:=p;obtain⟨oh,h',B,rfl,q⟩:=sb;exact⟨oh,h',B,rfl,q⟩
  |exc c M1=>
   obtain⟨h',B,rfl,f1,hB,R1⟩:=sb;dsimp only;cases hx:cn[c]? with
   |none=>exact SimS.stuck
   |some x=>
    dsimp only;have rp:Rep (A++B) (X++B) (h'++[O.ob (.exn x)]) (.ob (.exn x)) (.ref h'.length):=by
     unfold Rep;exact⟨h'.length,rfl,λz=>by have:=R1.lt _ z;omega,by simp⟩
    refine⟨_,_,B,rfl,f1.trans (Frm.app A h' _),hB,R1.up _,?_⟩;refine zU e (zU i (zv jE (Ja R.sub (f1.trans (Frm.app A h' _)) hB) rs) ?_) ?_
    ·exact rp
    ·trivial
 | .stop,A,X,h,M,σ,σh,R,rs=>by rw[px,ex];exact SimS.stuck
theorem ZZ:∀(s:Ss) (A X:List Nat) (h:AH) (M:Mem) (σ:TS) (σh:List (Option V)),RelM gl A X h M->jc A X h σ σh->SimS gl A X h (pxs gl P C s σ M) (exs F s σh h)
 | .nil,A,X,h,M,σ,σh,R,rs=>by rw[pxs,exs];exact SimS.mk (o:=.nx σ) (oh:=.nx σh) R rs
 | .cons s r,A,X,h,M,σ,σh,R,rs=>by
  rw[pxs,exs];dsimp only;refine SimS.bind (qD2 s A X h M σ σh R rs) ?_;intro o M1 oh h1 B f1 hB R1 ro;cases o with
  |nx σ2=>cases oh<;>first|exact .inl (ZZ r _ _ h1 M1 _ _ R1 ro)|exact ro.elim
  |ct σ2=>cases oh<;>first|exact .inr ⟨rfl,rfl⟩|exact ro.elim
  |bk σ2=>cases oh<;>first|exact .inr ⟨rfl,rfl⟩|exact ro.elim
  |rt t=>cases oh<;>first|exact .inr ⟨rfl,rfl⟩|exact ro.elim
end
end
section
variable{gl:List T}{A X B:List Nat}{h h':AH}{M M1:Mem}
theorem mapM_cons{α β:Type}{f:α->Option β}{x:α}{xs:List α}{ys:List β}(e:(x::xs).mapM f=some ys):∃y ys',f x=some y/\xs.mapM f=some ys'/\ys=y::ys':=by
 rw[List.mapM_cons]at e;cases hf:f x with
 |none=>rw[hf]at e;cases e
 |some y=>
  rw[hf]at e;cases hg:xs.mapM f with
  |none=>rw[hg]at e;cases e
  |some ys'=>rw[hg]at e;cases e;exact⟨y,ys',rfl,rfl,rfl⟩
theorem mapM_nil{α β:Type}{f:α->Option β}{ys:List β}(e:([]:List α).mapM f=some ys):ys=[]:=by
 rw[List.mapM_nil]at e;cases e;rfl
theorem QA{A1 X1:List Nat}{f:T->Option T}(hf:∀t t' w,f t=some t'->Rep A1 X1 h t w->Rep A X h t' w):∀{ts ts':List T}{vs:List V},ts.mapM f=some ts'->qQ A1 X1 h ts vs->qQ A X h ts' vs
 | [],ts',vs,e,r=>by cases mapM_nil e;unfold qQ at r ⊢;exact r
 |t::ts,ts',vs,e,r=>by
  obtain⟨y,ys,e1,e2,rfl⟩:=mapM_cons e;unfold qQ at r ⊢;obtain⟨v,vs',rfl,a,b⟩:=r;exact⟨v,vs',rfl,hf _ _ _ e1 a,QA hf e2 b⟩
theorem P6(R:RelM gl (A++B) (X++B) h M1)(hB:∀b∈B,b∉X):∀(d:Nat) (t t':T) (w:V),qM M1 A.length d t=some t'->Rep (A++B) (X++B) h t w->Rep A X h t' w:=by
 have hu:∀(t:T) (w:V),t.und A.length=true->Rep (A++B) (X++B) h t w->Rep A X h t w:=λt w u r=>W1 (λn hn=>wD hn) (λa ha=>wP _ ha) t r u;have hX:∀a,a∉X++B->a∉X:=λa x z=>x (wP _ z);intro d
 induction d with
 |zero=>
  intro t t' w e r;unfold qM at e;split at e
  ·rename_i u;cases e;exact hu _ w u r
  ·cases e
 |succ d ih=>
  intro t t' w e r;unfold qM at e;split at e
  ·rename_i u;cases e;exact hu _ w u r
  ·rename_i u;cases t with
   |v x=>cases e
   |ob o=>cases e
   |fz ts=>cases e
   |lst ts=>
    obtain⟨ts',e1,rfl⟩:=wA.mp e;unfold Rep at r ⊢;obtain⟨a,vs,rfl,q1,q2,q3⟩:=r;exact⟨a,vs,rfl,hX a q1,q2,QA ih e1 q3⟩
   |tup ts=>
    obtain⟨ts',e1,rfl⟩:=wA.mp e;unfold Rep at r ⊢;obtain⟨a,vs,rfl,q1,q2,q3⟩:=r;exact⟨a,vs,rfl,hX a q1,q2,QA ih e1 q3⟩
   |cell n=>
    obtain⟨ts,e0,e⟩:=wN.mp (show (M1[n]?).bind _=_ from e);obtain⟨ts',e1,rfl⟩:=wA.mp e;have hn:A.length<=n:=by
     unfold T.und at u;simpa using u
    unfold Rep at r ⊢;obtain⟨a,ea,rfl⟩:=r;obtain⟨ts2,vs,g1,g2,g3⟩:=R.at_ n a ea;rw[e0]at g1;cases g1;rw[wQ hn]at ea;exact⟨a,vs,rfl,hB a (wR ea),g2,QA ih e1 g3⟩
mutual
theorem G5(n:Nat):∀(t:T),t.lf=true->t.und n=true
 | .v x,_=>rfl
 | .cell _,l=>by unfold T.lf at l;cases l
 | .ob _,_=>rfl
 | .fz _,l=>by unfold T.lf at l;cases l
 | .lst _,l=>by unfold T.lf at l;cases l
 | .tup ts,l=>by unfold T.lf at l;unfold T.und;exact D2 n ts l
theorem D2(n:Nat):∀(ts:List T),T.lfs ts=true->T.unds n ts=true
 | [],_=>rfl
 |t::ts,l=>by unfold T.lfs at l;rw[wC]at l;unfold T.unds;rw[G5 n t l.1,D2 n ts l.2];rfl
end
theorem W9{n0:Nat}{f:T->Option (List Nat)}(hf:∀t l,f t=some l->t.und n0=true->t.lf=true):∀{ts:List T}{ls:List (List Nat)},ts.mapM f=some ls->T.unds n0 ts=true->T.lfs ts=true
 | [],ls,e,u=>rfl
 |t::ts,ls,e,u=>by
  obtain⟨y,ys,e1,e2,rfl⟩:=mapM_cons e;unfold T.unds at u;rw[wC]at u;unfold T.lfs;rw[hf t _ e1 u.1,W9 hf e2 u.2];rfl
theorem d9{n0:Nat}:∀(d:Nat) (t:T) (l:List Nat),jW M1 n0 d t=some l->t.und n0=true->t.lf=true:=by
 intro d
 induction d with
 |zero=>intro t l e u;unfold jW at e;split at e<;>first|assumption|cases e
 |succ d ih=>
  intro t l e u;unfold jW at e;split at e
  ·assumption
  ·cases t with
   |tup ts=>
    obtain⟨ls,e1,rfl⟩:=wA.mp e;unfold T.und at u;unfold T.lf;exact W9 ih e1 u
   |cell n=>
    dsimp only at e;split at e
    ·rename_i hn;unfold T.und at u;simp at u;omega
    ·cases e
   |v x=>cases e
   |ob o=>cases e
   |fz ts=>cases e
   |lst ts=>cases e
theorem JN{A1 X1:List Nat}{n0:Nat}{f:T->Option (List Nat)}{g:T->Option T}(hf:∀t l t' w,f t=some l->g t=some t'->Rep A1 X1 h t w->∃fp,FP X h t' w fp/\fp.map some=l.map (A1[·]?)/\∀n∈l,n0<=n):
  ∀{ts ts':List T}{ls:List (List Nat)}{vs:List V},ts.mapM f=some ls->ts.mapM g=some ts'->qQ A1 X1 h ts vs->∃fp,FPs X h ts' vs fp/\fp.map some=ls.flatten.map (A1[·]?)/\∀n∈ls.flatten,n0<=n
 | [],ts',ls,vs,e,e',r=>by
  cases mapM_nil e;cases mapM_nil e';unfold qQ at r;exact⟨[],by unfold FPs;exact⟨r,rfl⟩,rfl,λn hn=>by simp at hn⟩
 |t::ts,ts',ls,vs,e,e',r=>by
  obtain⟨y,ys,e1,e2,rfl⟩:=mapM_cons e;obtain⟨z,zs,e3,e4,rfl⟩:=mapM_cons e';unfold qQ at r;obtain⟨v,vs',rfl,a,b⟩:=r;obtain⟨f1,p1,q1,n1⟩:=hf _ _ _ _ e1 e3 a;obtain⟨f2,p2,q2,n2⟩:=JN hf e2 e4 b;refine⟨f1++f2,by unfold FPs;exact⟨v,vs',f1,f2,rfl,p1,p2,rfl⟩,by simp[q1,q2],λn hn=>?_⟩;rw[List.flatten_cons]at hn;rcases wJ.mp hn with z|z
  ·exact n1 n z
  ·exact n2 n z
theorem ZM{n0:Nat}{d:Nat}{t t':T}(u:t.und n0=true)(e:qM M1 n0 d t=some t'):t'=t:=by
 cases d<;>(unfold qM at e;rw[if_pos u]at e;cases e;rfl)
theorem qAT(R:RelM gl (A++B) (X++B) h M1)(hB:∀b∈B,b∉X):∀(d:Nat) (t:T) (l:List Nat) (t':T) (w:V),jW M1 A.length d t=some l->qM M1 A.length d t=some t'->Rep (A++B) (X++B) h t w ->
  ∃fp,FP X h t' w fp/\fp.map some=l.map ((A++B)[·]?)/\∀n∈l,A.length<=n:=by
 have hX:∀a,a∉X++B->a∉X:=λa x z=>x (wP _ z);have lfc:∀{d:Nat}{t t':T}{w:V},t.lf=true->qM M1 A.length d t=some t'->Rep (A++B) (X++B) h t w->∃fp:List Nat,FP X h t' w fp/\fp.map some=([]:List Nat).map ((A++B)[·]?)/\∀n∈([]:List Nat),A.length<=n:=by
  intro d t t' w l e r;cases ZM (G5 _ t l) e;exact⟨[],Za (λa o x y=>⟨hX a x,y⟩) _ (qBs _ r l),rfl,λn hn=>by simp at hn⟩
 intro d
 induction d with
 |zero=>
  intro t l t' w e e' r;unfold jW at e;split at e
  ·rename_i hl;cases e;exact lfc hl e' r
  ·cases e
 |succ d ih=>
  intro t l t' w e e' r;unfold jW at e;split at e
  ·rename_i hl;cases e;exact lfc hl e' r
  ·rename_i hl;have hu:t.und A.length≠true:=λu=>hl (d9 (M1:=M1) (d+1) t l (by unfold jW;rw[if_neg hl];exact e) u);unfold qM at e';rw[if_neg hu]at e';cases t with
   |tup ts=>
    obtain⟨ls,e1,rfl⟩:=wA.mp e;obtain⟨ts',e2,rfl⟩:=wA.mp e';unfold Rep at r;obtain⟨a,vs,rfl,q1,q2,q3⟩:=r;obtain⟨fp,p1,p2,p3⟩:=JN ih e1 e2 q3;exact⟨fp,by unfold FP;exact⟨a,vs,rfl,hX a q1,q2,p1⟩,p2,p3⟩
   |cell n=>
    dsimp only at e e';split at e
    ·rename_i hn;obtain⟨ts,e0,e⟩:=wN.mp e;obtain⟨ls,e1,rfl⟩:=wA.mp e;rw[e0]at e';dsimp only[Option.bind_some]at e';obtain⟨ts',e2,rfl⟩:=wA.mp e';unfold Rep at r;obtain⟨a,ea,rfl⟩:=r;obtain⟨ts2,vs,g1,g2,g3⟩:=R.at_ n a ea;rw[e0]at g1;cases g1;obtain⟨fp,p1,p2,p3⟩:=JN ih e1 e2 g3;have ea2:=ea;rw[wQ hn]at ea2;refine⟨fp++[a],by unfold FP;exact⟨a,vs,fp,rfl,hB a (wR ea2),g2,p1,rfl⟩,?_,λm hm=>?_⟩
     ·rw[wy,wy,p2];simp[ea]
     ·rcases wJ.mp hm with z|z
      ·exact p3 m z
      ·simp at z;omega
    ·cases e
   |v x=>cases e
   |ob o=>cases e
   |fz ts=>cases e
   |lst ts=>cases e
theorem JB{X' Y:List Nat}(R:RelM gl (A++B) Y h M1)(hX:∀a∈X',a∈Y)(hA:∀a∈A,a∈X')(hc:(M1.take A.length).all (T.unds A.length)=true)(hg:∀(g:Nat) t,gl[g]?=some t->Rep A X' h t (.ref g)):RelM gl A X' h (M1.take A.length):=by
 have l:=R.len;rw[wT]at l;refine⟨by rw[vt];omega,(wp.mp R.nd).1,hA,λa ha=>R.lt a (hX a ha),λn a e=>?_,hg⟩;have hn:=(wB.mp e).1;obtain⟨ts,vs,e1,e2,e3⟩:=R.at_ n a (jE n a e);refine⟨ts,vs,by rw[vN hn];exact e1,e2,jt (λn hn=>wD hn) hX ts e3 ?_⟩;rw[wU]at hc;refine hc ts (wR (i:=n) ?_);rw[vN hn];exact e1
theorem O9{M:Mem}{n0 d:Nat}{t:T}{o:Ob}(h:qM M n0 d t=some (.ob o)):t=.ob o:=by
 cases d with
 |zero=>
  unfold qM at h;split at h
  ·cases h;rfl
  ·cases h
 |succ d=>
  unfold qM at h;split at h
  ·cases h;rfl
  ·cases t with
   |lst ts=>cases hh:ts.mapM (qM M n0 d)<;>simp[hh]at h
   |tup ts=>cases hh:ts.mapM (qM M n0 d)<;>simp[hh]at h
   |cell n=>
    cases hm:M[n]? with
    |none=>simp[hm]at h
    |some ts=>cases hh:ts.mapM (qM M n0 d)<;>simp[hm,hh]at h
   |_=>cases h
theorem Jp(R0:RelM gl A X h M)(f:Frm A h h')(hB:∀b∈B,h.length<=b)(R:RelM gl (A++B) (X++B) h' M1){x:TB}{w:V}(q:QE gl (A++B) (X++B) h.length x w h' M1):Sim gl A X h (QE gl A X h.length) (finish M.length x M1) (.ok (w,h')):=by
 have hBX:∀b∈B,b∉X:=λb z y=>by have:=hB b z;have:=R0.lt b y;omega
 have hX:∀a,a∉X++B->a∉X:=λa x z=>x (wP _ z);have hg:∀{Z:List Nat},(∀a∈Z,h.length<=a)->∀(g:Nat) t,gl[g]?=some t->Rep A (X++Z) h' t (.ref g):=λhZ g t e=>zg (λ_ _ e=>e) (λa o x y=>⟨by
   rw[wJ];rintro(z|z)
   ·exact x z
   ·have:=hZ a z;have:=qP y;omega,(R0.keepN f a o x y).2⟩) t (R0.glo g t e)
 unfold finish;rw[<-R0.len];split
 ·rename_i hl;have hB0:B=[]:=by
   have:=R.len;rw[wT,hl]at this;exact wb.mp (by omega)
  subst hB0;rw[wO,wO]at R q;exact⟨w,h',rfl,f,R,q⟩
 split
 ·rename_i hc;refine tJ λt' et=>?_;have R':RelM gl A X h' (M1.take A.length):=by
   have:=JB (X':=X++[]) R (λa ha=>by simp at ha;exact wP _ ha) (λa ha=>by simp;exact R0.sub a ha) hc (hg λa ha=>by simp at ha);simpa using this
  refine⟨w,h',rfl,f,R',P6 R hBX 6 _ _ _ et q.1,λe=>?_⟩;rw[vT]at e;rcases e with e|e
  ·obtain⟨fp,p,nd,l,Rf,nw⟩:=q.2 e;cases ZM (qBU A.length _ p) et;have cr:∀{Z:List Nat},(∀a∈Z,h.length<=a)->RelM gl (A++B) (X++B++Z) h' M1->RelM gl A (X++Z) h' (M1.take A.length):=λ{Z} hZ q=>JB q (λa ha=>by
    rcases wJ.mp ha with z|z
    ·exact wP _ (wP _ z)
    ·exact wS _ z) (λa ha=>wP _ (R0.sub a ha)) hc (hg hZ)
   exact⟨fp,Za (λa o x y=>⟨hX a x,y⟩) _ p,nd,l,cr l Rf,λkvs e=>by
    obtain⟨a,q1,q2,q3⟩:=nw kvs e;exact⟨a,q1,q2,cr (λz hz=>by rw[wo.mp hz];exact q2) q3⟩⟩
  ·unfold frR at e;split at e
   ·rename_i l el;have ndl:l.Nodup:=by simpa using e
    obtain⟨fp,p,pm,pn⟩:=qAT R hBX 6 _ _ _ _ el et q.1;have fB:∀a∈fp,a∈B:=λa ha=>by
     have:some a∈fp.map some:=List.mem_map_of_mem ha;rw[pm]at this;obtain⟨n,hn,en⟩:=vG.mp this;rw[wQ (pn n hn)]at en;exact wR en
    have nd:fp.Nodup:=by
     have:(fp.map some).Nodup:=by
      rw[pm];refine vk.mpr (List.Pairwise.imp_of_mem ?_ ndl);intro n m hn hm hnm e;have:(A++B)[n]?∈fp.map some:=by rw[pm];exact List.mem_map_of_mem hn
      obtain⟨a,_,ea⟩:=vG.mp this;exact hnm ((vh (wB.mp ea.symm).1 R.nd).mp e)
     exact(vk.mp this).imp λ{a b} z e=>z (by rw[e])
    refine⟨fp,p,nd,λa ha=>hB a (fB a ha),JB R (λa ha=>?_) (λa ha=>wP _ (R0.sub a ha)) hc (hg λa ha=>hB a (fB a ha)),λkvs e=>by have e:t'=.ob (.dct kvs):=e;subst e;rw[O9 et]at el;simp[jW,T.lf]at el⟩;rcases wJ.mp ha with z|z
    ·exact wP _ z
    ·exact wS _ (fB a z)
   ·cases e
 ·exact Sim.stuck
end
theorem qET(gl:List T)(tb:List Fn)(Cs:List (List Nat)):∀(k f:Nat) (ts:List T) (ws:List V) (A X:List Nat) (h:AH) (M:Mem),RelM gl A X h M->qQ A X h ts ws->Sim gl A X h (QE gl A X h.length) (Pk gl tb Cs k f ts M) (Fk tb k f ws h)
 | 0,f,ts,ws,A,X,h,M,R,rs=>Sim.stuck
 |k+1,f,ts,ws,A,X,h,M,R,rs=>by
  unfold Pk Fk;cases ed:tb[f]? with
  |none=>exact Sim.stuck
  |some d=>
   dsimp only;rw[<-qB (reps_iff.mp rs)];split
   ·have s:=ZZ (Cs.getD f []) (qET gl tb Cs k) d.body A X h M _ _ R (B0 (d.nslot-d.npar) rs);revert s;generalize pxs gl (Pk gl tb Cs k) (Cs.getD f []) d.body (ts.map some++List.replicate (d.nslot-d.npar) none) M=r;generalize exs (Fk tb k) d.body (ws.map some++List.replicate (d.nslot-d.npar) none) h=rh;intro s;cases r with
    |stuck=>exact Sim.stuck
    |exc c M1=>
     obtain⟨h',B,rfl,f1,hB,R1⟩:=s;show Sim gl A X h _ (if _ then _ else if _ then _ else _) _;split
     ·rename_i hl;have hB0:B=[]:=by
       have:=R1.len;rw[wT,hl,R.len]at this;exact wb.mp (by omega)
      subst hB0;rw[wO,wO]at R1;exact⟨h',rfl,f1,R1⟩
     split
     ·rename_i hc;refine⟨h',rfl,f1,?_⟩;rw[<-R.len]at hc ⊢;exact JB R1 (λa ha=>wP _ ha) R.sub hc λg t e=>R.keep f1 (R.glo g t e)
     ·exact Sim.stuck
    |ok p=>
     obtain⟨o,M1⟩:=p;obtain⟨oh,h',B,rfl,f1,hB,R1,ro⟩:=s;rw[tF];cases o with
     |nx σ=>
      cases oh<;>first|exact ro.elim|skip
      have r:Rep (A++B) (X++B) h' (.v .non) .non:=by unfold Rep;exact⟨rfl,rfl⟩
      exact Jp R f1 hB R1 (show QE gl (A++B) (X++B) h.length (.v .non,true) .non h' M1 from⟨r,λ_=>Frs.of_lf R1 r rfl⟩)
     |rt t=>
      cases oh<;>first|exact ro.elim|skip
      exact Jp R f1 hB R1 ro
     |bk σ=>exact Sim.stuck
     |ct σ=>exact Sim.stuck
   ·exact Sim.stuck
noncomputable def glT(gs:List O):List T:=gs.map λo=>match o with | .tup xs=>.tup (xs.map .v) | .lst _ xs=>.fz (xs.map .v) | .ob _=>.v .non
noncomputable def qEL(gs:List O):Bool:=gs.all λo=>match o with | .tup xs=>xs.all flat|_=>false
theorem qDi{gs:List O}{tb:List Fn}{Cs:List (List Nat)}{k i:Nat}{ns:List Int}{b:Bool}{M':Mem}(hg:qEL gs=true)(e:Pk (glT gs) tb Cs k i [.fz (ns.map λn=>.v (.int n))] []=.ok ((.v (.bl true),b),M')):
  ∃h',Fk tb k i [.ref gs.length] (gs++[.lst true (ns.map V.int)])=.ok (.bl true,h'):=by
 have R:RelM (glT gs) [] [] (gs++[.lst true (ns.map V.int)]) []:=by
  refine⟨rfl,vi,λa ha=>by simp at ha,λa ha=>by simp at ha,λn a e=>by simp at e,λg t eg=>?_⟩;unfold glT at eg;rw[wj]at eg;obtain⟨o,eo,rfl⟩:=wA.mp eg;unfold qEL at hg;rw[wU]at hg;have ho:=hg o (wR eo);cases o with
  |lst _ _=>cases ho
  |ob _=>cases ho
  |tup xs=>
   dsimp only;unfold Rep;exact⟨g,xs,rfl,by simp,by rw[wD (wB.mp eo).1];exact eo,jr ho⟩
 have rs:qQ [] [] (gs++[O.lst true (ns.map V.int)]) [.fz (ns.map λn=>.v (.int n))] [.ref gs.length]:=by
  unfold qQ;refine⟨_,[],rfl,?_,by unfold qQ;rfl⟩;unfold Rep;refine⟨gs.length,ns.map V.int,rfl,by simp,by simp,?_⟩;have:ns.map (λn=>T.v (.int n))=(ns.map V.int).map .v:=by rw[wx];rfl
  rw[this];exact jr (by simp[flat])
 have s:=qET (glT gs) tb Cs k i _ _ [] [] _ [] R rs;rw[e]at s;obtain⟨w,h',e1,_,_,q⟩:=s;cases zf q.1;exact⟨h',e1⟩
noncomputable def qBV(t:T):Option TB:=match t with | .v (.int i)=>some (iT (-i))|_=>none
noncomputable def Y8(M:Mem)(p k x:T):Option Mem:=match p,k with
 | .cell n,.v (.int j)=>(M[n]?).bind λxs=>(_L.ixN xs.length j).map λj=>M.set n (xs.set j x)
 |_,_=>none
noncomputable def r9(M:Mem)(n:Nat)(x:T):Option Mem:=(M[n]?).bind λxs=>if xs.length<lim then some (M.set n (xs++[x])) else none
noncomputable def O7(t:T):Option (List T):=match t with | .v (.int j)=>if -1000000<=j/\j<=100000 then some (zO 0 j.toNat) else none|_=>none
noncomputable def qEr(t:T):Option (List T):=match t with | .v (.int j)=>if -1000000<=j/\j<=1000000 then some (zO 0 j.toNat) else none|_=>none
section
variable{gl:List T}{P:Nat->List T->Mem->PR (TB×Mem)}{C:List Nat}{σ:TS}{M:Mem}{a b c e:E}{as lo hi:Es}
@[simp] theorem pe_var(i:Nat):pe gl P (.var i) σ M=match σ[i]? with|some (some t)=>.ok ((t,t.lf),M)|_=>.stuck:=Eq.trans rfl rfl
@[simp] theorem pe_int(i:Int):pe gl P (.cst (.int i)) σ M=.ok (iT i,M):=Eq.trans rfl rfl
@[simp] theorem pe_bl(i:Bool):pe gl P (.cst (.bl i)) σ M=.ok (bT i,M):=Eq.trans rfl rfl
@[simp] theorem pe_non:pe gl P (.cst .non) σ M=.ok ((.v .non,true),M):=Eq.trans rfl rfl
@[simp] theorem pe_str(s:PySem.Str):pe gl P (.cst (.str s)) σ M=.ok ((.v (.str s),true),M):=Eq.trans rfl rfl
@[simp] theorem pe_glob(g:Nat):pe gl P (.glob g) σ M=match gl[g]? with|some t=>.ok ((t,t.lf),M)|none=>.stuck:=Eq.trans rfl rfl
@[simp] theorem qFD(op:BOp):pe gl P (.bin op a b) σ M=(pe gl P a σ M).bind λp=>(pe gl P b σ p.2).bind λq=>(tH (qq q.2 op p.1.1 q.1.1)).bind λr=>.ok (r,q.2):=Eq.trans rfl rfl
@[simp] theorem qEM:pe gl P (.neg a) σ M=(pe gl P a σ M).bind λp=>(tH (qBV p.1.1)).bind λr=>.ok (r,p.2):=by
 show PR.bind _ _=_;dsimp only;congr 1;funext p;obtain⟨⟨p1,p3⟩,p2⟩:=p;dsimp only;unfold qBV;cases p1<;>first|rfl|skip
 rename_i x;cases x<;>rfl
@[simp] theorem qAq(op:COp):pe gl P (.cmp op a b) σ M=(pe gl P a σ M).bind λp=>(pe gl P b σ p.2).bind λq=>(tH (qd q.2 op p.1.1 q.1.1)).bind λr=>.ok (bT r,q.2):=Eq.trans rfl rfl
@[simp] theorem qFt(o1 o2:COp):pe gl P (.cmp2 o1 o2 a b c) σ M=(pe gl P a σ M).bind λp=>(pe gl P b σ p.2).bind λq=>(tH (qd q.2 o1 p.1.1 q.1.1)).bind λr=>
  if r=true then (pe gl P c σ q.2).bind λz=>(tH (qd z.2 o2 q.1.1 z.1.1)).bind λr=>.ok (bT r,z.2) else .ok (bT false,q.2):=Eq.trans rfl rfl
@[simp] theorem qGT(o1 o2 o3:COp):pe gl P (.cmp3 o1 o2 o3 a b c d) σ M=(pe gl P a σ M).bind λp=>(pe gl P b σ p.2).bind λq=>(tH (qd q.2 o1 p.1.1 q.1.1)).bind λr=>
  if r=true then (pe gl P c σ q.2).bind λz=>(tH (qd z.2 o2 q.1.1 z.1.1)).bind λr=>(if r=true then (pe gl P d σ z.2).bind λw=>(tH (qd w.2 o3 z.1.1 w.1.1)).bind λr=>.ok (bT r,w.2) else .ok (bT false,z.2)) else .ok (bT false,q.2):=Eq.trans rfl rfl
@[simp] theorem pe_and:pe gl P (.and a b) σ M=(pB (pe gl P a σ M)).bind λp=>if p.1=true then pe gl P b σ p.2 else .ok (bT false,p.2):=Eq.trans rfl rfl
@[simp] theorem pe_or:pe gl P (.or a b) σ M=(pB (pe gl P a σ M)).bind λp=>if p.1=true then .ok (bT true,p.2) else pe gl P b σ p.2:=Eq.trans rfl rfl
@[simp] theorem pe_not:pe gl P (.not a) σ M=(pB (pe gl P a σ M)).bind λp=>.ok (bT (!p.1),p.2):=Eq.trans rfl rfl
@[simp] theorem qEf:pe gl P (.ite c a b) σ M=(pB (pe gl P c σ M)).bind λp=>if p.1=true then pe gl P a σ p.2 else pe gl P b σ p.2:=Eq.trans rfl rfl
@[simp] theorem pe_call(f:Nat):pe gl P (.call f as) σ M=(pes gl P as σ M).bind λp=>(P f (p.1.map (·.1)) p.2).nx:=Eq.trans rfl rfl
@[simp] theorem qDg(f:BF):pe gl P (.blt f as) σ M=(pes gl P as σ M).bind λp=>(tH (zG p.2 f (p.1.map (·.1)))).bind λr=>.ok (r,p.2):=Eq.trans rfl rfl
@[simp] theorem qEz(ts:List String):pe gl P (.isi a ts) σ M=(pe gl P a σ M).bind λp=>(tH (zX p.2 p.1.1)).bind λt=>.ok (bT (ts.any (jI t)),p.2):=Eq.trans rfl rfl
@[simp] theorem qFJ(cn ks:List PySem.Str):pe gl P (.isx a cn ks) σ M=(pe gl P a σ M).bind λp=>(tH (qC7 cn p.1.1)).bind λc=>.ok (bT (ks.any (G8 c)),p.2):=Eq.trans rfl rfl
@[simp] theorem qE0:pe gl P (.idx a b) σ M=(pe gl P a σ M).bind λp=>(pe gl P b σ p.2).bind λq=>(tH (zr q.2 p.1.1 q.1.1)).bind λr=>.ok (r,q.2):=Eq.trans rfl rfl
@[simp] theorem qE6:pe gl P (.sl a lo hi) σ M=(pe gl P a σ M).bind λp=>(pes gl P lo σ p.2).bind λl=>(pes gl P hi σ l.2).bind λu=>
  (tH (p.1.1.its u.2)).bind λxs=>(tH (zI (l.1.map (·.1)))).bind λi=>(tH (zI (u.1.map (·.1)))).bind λj=>(tH (qCX p.1.1 xs i.head? j.head?)).bind λr=>.ok (r,u.2):=Eq.trans rfl rfl
@[simp] theorem pe_lst:pe gl P (.lst as) σ M=(pes gl P as σ M).bind λp=>if p.1.length<=lim then .ok ((.lst (p.1.map (·.1)),p.1.all (·.2)),p.2) else .stuck:=Eq.trans rfl rfl
@[simp] theorem pe_tup:pe gl P (.tup as) σ M=(pes gl P as σ M).bind λp=>if p.1.length<=lim then .ok ((.tup (p.1.map (·.1)),p.1.all (·.2)),p.2) else .stuck:=Eq.trans rfl rfl
@[simp] theorem pe_comp(it:Itr)(src:List (Option Nat))(g:Tg)(c:Es):pe gl P (.comp it src g c e) σ M=(pei gl P it σ M).bind λp=>qI p.1.2 g (pec gl P c) (pe gl P e) p.1.1 [] true (jq src σ) p.2:=Eq.trans rfl rfl
@[simp] theorem qDK:pe gl P (.app a b) σ M=(pe gl P a σ M).bind λp=>match p.1.1 with
  | .cell n=>(pe gl P b σ p.2).bind λq=>(tH (r9 q.2 n q.1.1)).bind λM'=>.ok ((.v .non,true),M')
  |_=>.stuck:=by
 show PR.bind _ _=_;dsimp only;congr 1;funext p;obtain⟨⟨p1,p3⟩,p2⟩:=p;dsimp only;cases p1<;>dsimp only;congr 1;funext q;obtain⟨⟨q1,q3⟩,q2⟩:=q;dsimp only;unfold r9;rename_i n;cases h:q2[n]? with
 |none=>rfl
 |some xs=>
  dsimp only[Option.bind_some];split<;>rfl
@[simp] theorem qCV:pe gl P (.lrng a) σ M=(pe gl P a σ M).bind λp=>(tH (O7 p.1.1)).bind λxs=>.ok ((.lst xs,true),p.2):=by
 show PR.bind _ _=_;dsimp only;congr 1;funext p;obtain⟨⟨p1,p3⟩,p2⟩:=p;dsimp only;unfold O7;cases p1<;>first|rfl|skip
 rename_i x;cases x<;>first|rfl|skip
 dsimp only;split<;>rfl
@[simp] theorem qBi(m:Mt):pe gl P (.meth m a as) σ M=(pe gl P a σ M).bind λp=>match p.1.1 with
  | .cell n=>(pes gl P as σ p.2).bind λq=>tH (ZA m n (q.1.map (·.1)) q.2)
  |_=>.stuck:=Eq.trans rfl rfl
@[simp] theorem qFf:pe gl P .dnew σ M=.ok ((.ob (.dct []),true),M):=Eq.trans rfl rfl
@[simp] theorem qFd:pes gl P .nil σ M=.ok ([],M):=Eq.trans rfl rfl
@[simp] theorem qAW:pes gl P (.cons a as) σ M=(pe gl P a σ M).bind λp=>(pes gl P as σ p.2).bind λq=>.ok (p.1::q.1,q.2):=Eq.trans rfl rfl
@[simp] theorem Zw:pec gl P .nil σ M=.ok (true,M):=Eq.trans rfl rfl
@[simp] theorem Qi:pec gl P (.cons a as) σ M=pB (pe gl P a σ M):=Eq.trans rfl rfl
@[simp] theorem qAA:pei gl P (.list a) σ M=(pe gl P a σ M).bind λp=>(tH (Zi p.2 p.1.1)).bind λs=>.ok (s,p.2):=Eq.trans rfl rfl
@[simp] theorem qAN:pei gl P (.rng1 a) σ M=(pe gl P a σ M).bind λp=>(tH (qEr p.1.1)).bind λxs=>.ok ((xs,[]),p.2):=by
 show PR.bind _ _=_;dsimp only;congr 1;funext p;obtain⟨⟨p1,p3⟩,p2⟩:=p;dsimp only;unfold qEr;cases p1<;>first|rfl|skip
 rename_i x;cases x<;>first|rfl|skip
 dsimp only;split<;>rfl
@[simp] theorem qCl:pei gl P (.zip a b) σ M=(pe gl P a σ M).bind λp=>(pe gl P b σ p.2).bind λq=>(tH (ZS q.2 p.1.1)).bind λs=>(tH (ZS q.2 q.1.1)).bind λt=>
  .ok ((List.zipWith (λa b=>T.tup [a,b]) s.1 t.1,s.2++t.2),q.2):=Eq.trans rfl rfl
@[simp] theorem qFU:pei gl P (.enum a) σ M=(pe gl P a σ M).bind λp=>(tH (ZS p.2 p.1.1)).bind λs=>.ok ((QQ 0 s.1,s.2),p.2):=Eq.trans rfl rfl
@[simp] theorem v3:pei gl P (.revd a) σ M=(pe gl P a σ M).bind λp=>(tH (ZS p.2 p.1.1)).bind λs=>.ok ((s.1.reverse,s.2),p.2):=Eq.trans rfl rfl
variable{s:S}{r t u:Ss}
@[simp] theorem W5(i:Nat):px gl P C (.asg (.name i) e) σ M=(pe gl P e σ M).bind λp=>if (C.contains i&&p.1.2)=true then .ok (.nx (σ.set i (some (thaw p.2.length p.1.1).1)),p.2++(thaw p.2.length p.1.1).2) else if (C.contains (i+1000)&&qEn e)=true then (match p.1.1 with | .lst ts=>.ok (.nx (σ.set i (some (.cell p.2.length))),p.2++[ts])|_=>.stuck) else .ok (.nx (σ.set i (some p.1.1)),p.2):=Eq.trans rfl rfl
@[simp] theorem qGl(is:List Nat):px gl P C (.asg (.tup is) e) σ M=(pe gl P e σ M).bind λp=>match zL (.tup is) p.1.1 σ with|some σ1=>.ok (.nx σ1,p.2)|none=>.stuck:=Eq.trans rfl rfl
@[simp] theorem qGs(i j:Nat):px gl P C (.par i j a b) σ M=(pe gl P a σ M).bind λp=>(pe gl P b σ p.2).bind λq=>.ok (.nx ((σ.set i (some p.1.1)).set j (some q.1.1)),q.2):=Eq.trans rfl rfl
@[simp] theorem qFK{o i v:E}:px gl P C (.put o i v) σ M=(pe gl P v σ M).bind λx=>(pe gl P o σ x.2).bind λp=>(pe gl P i σ p.2).bind λk=>(tH (Y8 k.2 p.1.1 k.1.1 x.1.1)).bind λM'=>.ok (.nx σ,M'):=by
 show PR.bind _ _=_;dsimp only;congr 1;funext x;congr 1;funext p;congr 1;funext k;obtain⟨⟨k1,k3⟩,k2⟩:=k;obtain⟨⟨p1,p3⟩,p2⟩:=p;dsimp only;unfold Y8;cases p1<;>first|rfl|skip
 rename_i n;cases k1<;>first|rfl|skip
 rename_i y;cases y<;>first|rfl|skip
 rename_i j;dsimp only;cases h:k2[n]? with
 |none=>rfl
 |some xs=>
  dsimp only[Option.bind_some];have hj:_P.ixN xs.length j=_L.ixN xs.length j:=rfl;rw[hj];cases _L.ixN xs.length j with
  |none=>rfl
  |some j=>rfl
@[simp] theorem U0:px gl P C (.expr e) σ M=(pe gl P e σ M).bind λp=>.ok (.nx σ,p.2):=Eq.trans rfl rfl
@[simp] theorem qEe:px gl P C (.ret e) σ M=(pe gl P e σ M).bind λp=>.ok (.rt p.1,p.2):=Eq.trans rfl rfl
@[simp] theorem qDa:px gl P C (.ifs c t u) σ M=(pB (pe gl P c σ M)).bind λp=>if p.1=true then pxs gl P C t σ p.2 else pxs gl P C u σ p.2:=Eq.trans rfl rfl
@[simp] theorem qED(g:Tg)(it:Itr):px gl P C (.for_ g it t) σ M=(pei gl P it σ M).bind λp=>zF p.1.2 g (pxs gl P C t) p.1.1 σ p.2:=Eq.trans rfl rfl
@[simp] theorem J4:px gl P C (.while_ c t) σ M=zR (λσ M=>pB (pe gl P c σ M)) (pxs gl P C t) qAw σ M:=Eq.trans rfl rfl
@[simp] theorem Qe(f:Nat):px gl P C (.xexpr f as) σ M=(pes gl P as σ M).bind λp=>(P f (p.1.map (·.1)) p.2).bind λq=>.ok (.nx σ,q.2):=Eq.trans rfl rfl
@[simp] theorem qFP(c:Nat):px gl P C (.raise c) σ M=.exc c M:=Eq.trans rfl rfl
theorem X2(b:S)(j i:Nat)(cn:List PySem.Str):px gl P C (.tryE b j i cn) σ M=match px gl P C b σ M with
  | .exc c M1=>(match cn[c]? with|some x=>.ok (.nx ((σ.set i (some (.ob (.exn x)))).set j none),M1)|none=>.stuck)
  |r=>r:=Eq.trans rfl rfl
@[simp] theorem qGZ:px gl P C .stop σ M=.stuck:=Eq.trans rfl rfl
@[simp] theorem qFm:pxs gl P C .nil σ M=.ok (.nx σ,M):=Eq.trans rfl rfl
@[simp] theorem ql:pxs gl P C (.cons s r) σ M=(px gl P C s σ M).bind λp=>match p.1 with
  | .nx σ1=>pxs gl P C r σ1 p.2
  |o=>.ok (o,p.2):=Eq.trans rfl rfl
@[simp] theorem l6(x:Bool):pB (.ok (bT x,M))=.ok (x,M):=Eq.trans rfl rfl
@[simp] theorem qIY(x f:Bool):pB (.ok ((T.v (.bl x),f),M))=.ok (x,M):=Eq.trans rfl rfl
@[simp] theorem qFT:pB .stuck=.stuck:=Eq.trans rfl rfl
@[simp] theorem bind_exc{α β:Type}(c:Nat)(M:Mem)(f:α->PR β):(PR.exc c M:PR α).bind f=.exc c M:=Eq.trans rfl rfl
end
@[simp] theorem qIV(x:V):T.lf (.v x)=true:=by rw[T.lf]
@[simp] theorem qCu(n:Nat):T.lf (.cell n)=false:=by rw[T.lf]<;>simp
@[simp] theorem qGo(xs:List T):T.lf (.lst xs)=false:=by rw[T.lf]<;>simp
@[simp] theorem qHR(xs:List T):T.lf (.tup xs)=T.lfs xs:=by rw[T.lf]
@[simp] theorem qFk:T.lfs []=true:=by rw[T.lfs]
@[simp] theorem Ql(x:T)(xs:List T):T.lfs (x::xs)=(x.lf&&T.lfs xs):=by rw[T.lfs]
@[simp] theorem iT1(i:Int):(iT i).1=.v (.int i):=rfl
@[simp] theorem iT2(i:Int):(iT i).2=true:=rfl
@[simp] theorem bT1(i:Bool):(bT i).1=.v (.bl i):=rfl
@[simp] theorem bT2(i:Bool):(bT i).2=true:=rfl
@[simp] theorem lT1(xs:List T):(lT xs).1=.lst xs:=rfl
@[simp] theorem lT2(xs:List T):(lT xs).2=T.lfs xs:=rfl
@[simp] theorem qH3(x:V):T.isV (.v x)=some x:=rfl
@[simp] theorem qCT(x:List T):T.isV (.lst x)=none:=rfl
@[simp] theorem qF1(x:List T):T.isV (.tup x)=none:=rfl
@[simp] theorem qFQ(x:Nat):T.isV (.cell x)=none:=rfl
section
variable{M:Mem}(i j:Int) (xs ys:List T)
@[simp] theorem qGm:qq M .add (.v (.int i)) (.v (.int j))=some (iT (i+j)):=rfl
@[simp] theorem qD6:qq M .sub (.v (.int i)) (.v (.int j))=some (iT (i-j)):=rfl
@[simp] theorem qCh:qq M .band (.v (.int i)) (.v (.int j))=some (iT (PySem.Builtin.bitAnd i j)):=rfl
theorem qDC{i j:Int}(h:(-18446744073709551616<i/\i<18446744073709551616)\/(-18446744073709551616<j/\j<18446744073709551616)):qq M .mul (.v (.int i)) (.v (.int j))=some (iT (i*j)):=by
 show (if (jy i||jy j||(mid i&&mid j))=true then _ else _)=_;rw[if_pos];rcases h with h|h
 ·have:jy i=true:=by unfold jy two64;exact uG h
  rw[this];rfl
 ·have:jy j=true:=by unfold jy two64;exact uG h
  rw[this,Bool.or_true];rfl
theorem qCx{i j:Int}(h:0<j/\j<1073741824):qq M .fdiv (.v (.int i)) (.v (.int j))=some (iT (i / j)):=by
 show (if 0<j/\(j<1073741824\/mid j=true) then _ else _)=_;rw[if_pos ⟨h.1,.inl h.2⟩]
theorem qBE{i j:Int}(h:0<j):qq M .mod (.v (.int i)) (.v (.int j))=some (iT (i % j)):=by
 show (if 0<j then _ else _)=_;rw[if_pos h]
theorem qAg{i j:Int}(h:0<=j/\j<=1000/\i.natAbs<18446744073709551616):qq M .pow (.v (.int i)) (.v (.int j))=some (iT (i ^ j.toNat)):=by
 show (if 0<=j/\j<=1000/\i.natAbs<18446744073709551616 then _ else _)=_;rw[if_pos h]
theorem qDY{i j:Int}(h:0<=j/\j<=1000/\i.natAbs<18446744073709551616):qq M .shl (.v (.int i)) (.v (.int j))=some (iT (i*2 ^ j.toNat)):=by
 show (if 0<=j/\j<=1000/\i.natAbs<18446744073709551616 then _ else _)=_;rw[if_pos h]
theorem X3{xs ys:List T}(h:xs.length+ys.length<=lim):qq M .add (.lst xs) (.lst ys)=some (lT (xs++ys)):=by
 show (if xs.length+ys.length<=lim then _ else _)=_;rw[if_pos h]
@[simp] theorem qAU:qd M .lt (.v (.int i)) (.v (.int j))=some (decide (i<j)):=rfl
@[simp] theorem y3:qd M .le (.v (.int i)) (.v (.int j))=some (decide (i<=j)):=rfl
@[simp] theorem qE3:qd M .gt (.v (.int i)) (.v (.int j))=some (decide (j<i)):=rfl
@[simp] theorem qGh:qd M .ge (.v (.int i)) (.v (.int j))=some (decide (j<=i)):=rfl
@[simp] theorem qEH:qd M .eq (.v (.int i)) (.v (.int j))=some (decide (i=j)):=by
 show some (i==j)=_;congr 1
@[simp] theorem qDI:zG M .list [.lst xs]=some (lT xs):=rfl
@[simp] theorem qGp:zG M .list [.tup xs]=some (lT xs):=rfl
@[simp] theorem qEs:zG M .max [.v (.int i),.v (.int j)]=some (iT (if j>i then j else i)):=rfl
@[simp] theorem qEj:zG M .min [.v (.int i),.v (.int j)]=some (iT (if j<i then j else i)):=rfl
@[simp] theorem qGR:zG M .abs [.v (.int i)]=some (iT (if i<0 then -i else i)):=rfl
@[simp] theorem qH9:zG M .int [.v (.int i)]=some (iT i):=rfl
@[simp] theorem qIg:zX M (.v (.int i))=some "int":=rfl
@[simp] theorem qIl(b:Bool):zX M (.v (.bl b))=some "bool":=rfl
@[simp] theorem qIX:zX M (.lst xs)=some "list":=rfl
@[simp] theorem qIZ:zX M (.tup xs)=some "tuple":=rfl
@[simp] theorem qIa(kvs:List (Int×V)):zX M (.ob (.dct kvs))=some "dict":=rfl
@[simp] theorem qIU:zX M (.v .non)=some "NoneType":=rfl
@[simp] theorem qEC:Zi M (.lst xs)=some (xs,[]):=rfl
@[simp] theorem qHS:Zi M (.tup xs)=some (xs,[]):=rfl
@[simp] theorem qHW:Zi M (.fz xs)=some (xs,[]):=rfl
@[simp] theorem qGy:ZS M (.lst xs)=some (xs,[]):=rfl
end
@[simp] theorem lk0{α:Type}(x0:α)(l:List α):(x0::l)[0]?=some x0:=rfl
@[simp] theorem st0{α:Type}(x0 y:α)(l:List α):(x0::l).set 0 y=y::l:=rfl
@[simp] theorem lk1{α:Type}(x0 x1:α)(l:List α):(x0::x1::l)[1]?=some x1:=rfl
@[simp] theorem st1{α:Type}(x0 x1 y:α)(l:List α):(x0::x1::l).set 1 y=x0::y::l:=rfl
@[simp] theorem lk2{α:Type}(x0 x1 x2:α)(l:List α):(x0::x1::x2::l)[2]?=some x2:=rfl
@[simp] theorem st2{α:Type}(x0 x1 x2 y:α)(l:List α):(x0::x1::x2::l).set 2 y=x0::x1::y::l:=rfl
@[simp] theorem lk3{α:Type}(x0 x1 x2 x3:α)(l:List α):(x0::x1::x2::x3::l)[3]?=some x3:=rfl
@[simp] theorem st3{α:Type}(x0 x1 x2 x3 y:α)(l:List α):(x0::x1::x2::x3::l).set 3 y=x0::x1::x2::y::l:=rfl
@[simp] theorem lk4{α:Type}(x0 x1 x2 x3 x4:α)(l:List α):(x0::x1::x2::x3::x4::l)[4]?=some x4:=rfl
@[simp] theorem st4{α:Type}(x0 x1 x2 x3 x4 y:α)(l:List α):(x0::x1::x2::x3::x4::l).set 4 y=x0::x1::x2::x3::y::l:=rfl
@[simp] theorem lk5{α:Type}(x0 x1 x2 x3 x4 x5:α)(l:List α):(x0::x1::x2::x3::x4::x5::l)[5]?=some x5:=rfl
@[simp] theorem st5{α:Type}(x0 x1 x2 x3 x4 x5 y:α)(l:List α):(x0::x1::x2::x3::x4::x5::l).set 5 y=x0::x1::x2::x3::x4::y::l:=rfl
@[simp] theorem lk6{α:Type}(x0 x1 x2 x3 x4 x5 x6:α)(l:List α):(x0::x1::x2::x3::x4::x5::x6::l)[6]?=some x6:=rfl
@[simp] theorem st6{α:Type}(x0 x1 x2 x3 x4 x5 x6 y:α)(l:List α):(x0::x1::x2::x3::x4::x5::x6::l).set 6 y=x0::x1::x2::x3::x4::x5::y::l:=rfl
@[simp] theorem lk7{α:Type}(x0 x1 x2 x3 x4 x5 x6 x7:α)(l:List α):(x0::x1::x2::x3::x4::x5::x6::x7::l)[7]?=some x7:=rfl
@[simp] theorem st7{α:Type}(x0 x1 x2 x3 x4 x5 x6 x7 y:α)(l:List α):(x0::x1::x2::x3::x4::x5::x6::x7::l).set 7 y=x0::x1::x2::x3::x4::x5::x6::y::l:=rfl
@[simp] theorem lk8{α:Type}(x0 x1 x2 x3 x4 x5 x6 x7 x8:α)(l:List α):(x0::x1::x2::x3::x4::x5::x6::x7::x8::l)[8]?=some x8:=rfl
@[simp] theorem st8{α:Type}(x0 x1 x2 x3 x4 x5 x6 x7 x8 y:α)(l:List α):(x0::x1::x2::x3::x4::x5::x6::x7::x8::l).set 8 y=x0::x1::x2::x3::x4::x5::x6::x7::y::l:=rfl
@[simp] theorem lk9{α:Type}(x0 x1 x2 x3 x4 x5 x6 x7 x8 x9:α)(l:List α):(x0::x1::x2::x3::x4::x5::x6::x7::x8::x9::l)[9]?=some x9:=rfl
@[simp] theorem st9{α:Type}(x0 x1 x2 x3 x4 x5 x6 x7 x8 x9 y:α)(l:List α):(x0::x1::x2::x3::x4::x5::x6::x7::x8::x9::l).set 9 y=x0::x1::x2::x3::x4::x5::x6::x7::x8::y::l:=rfl
@[simp] theorem qIb{α:Type}(x0 x1 x2 x3 x4 x5 x6 x7 x8 x9 x10:α)(l:List α):(x0::x1::x2::x3::x4::x5::x6::x7::x8::x9::x10::l)[10]?=some x10:=rfl
@[simp] theorem qIh{α:Type}(x0 x1 x2 x3 x4 x5 x6 x7 x8 x9 x10 y:α)(l:List α):(x0::x1::x2::x3::x4::x5::x6::x7::x8::x9::x10::l).set 10 y=x0::x1::x2::x3::x4::x5::x6::x7::x8::x9::y::l:=rfl
@[simp] theorem qIQ{α:Type}(x0 x1 x2 x3 x4 x5 x6 x7 x8 x9 x10 x11:α)(l:List α):(x0::x1::x2::x3::x4::x5::x6::x7::x8::x9::x10::x11::l)[11]?=some x11:=rfl
@[simp] theorem qIi{α:Type}(x0 x1 x2 x3 x4 x5 x6 x7 x8 x9 x10 x11 y:α)(l:List α):(x0::x1::x2::x3::x4::x5::x6::x7::x8::x9::x10::x11::l).set 11 y=x0::x1::x2::x3::x4::x5::x6::x7::x8::x9::x10::y::l:=rfl
@[simp] theorem qIj{α:Type}(x0 x1 x2 x3 x4 x5 x6 x7 x8 x9 x10 x11 x12:α)(l:List α):(x0::x1::x2::x3::x4::x5::x6::x7::x8::x9::x10::x11::x12::l)[12]?=some x12:=rfl
@[simp] theorem qIk{α:Type}(x0 x1 x2 x3 x4 x5 x6 x7 x8 x9 x10 x11 x12 y:α)(l:List α):(x0::x1::x2::x3::x4::x5::x6::x7::x8::x9::x10::x11::x12::l).set 12 y=x0::x1::x2::x3::x4::x5::x6::x7::x8::x9::x10::x11::y::l:=rfl
@[simp] theorem qIW{α:Type}(x0 x1 x2 x3 x4 x5 x6 x7 x8 x9 x10 x11 x12 x13:α)(l:List α):(x0::x1::x2::x3::x4::x5::x6::x7::x8::x9::x10::x11::x12::x13::l)[13]?=some x13:=rfl
@[simp] theorem qIS{α:Type}(x0 x1 x2 x3 x4 x5 x6 x7 x8 x9 x10 x11 x12 x13 y:α)(l:List α):(x0::x1::x2::x3::x4::x5::x6::x7::x8::x9::x10::x11::x12::x13::l).set 13 y=x0::x1::x2::x3::x4::x5::x6::x7::x8::x9::x10::x11::x12::y::l:=rfl
@[simp] theorem qIT{α:Type}(x0 x1 x2 x3 x4 x5 x6 x7 x8 x9 x10 x11 x12 x13 x14:α)(l:List α):(x0::x1::x2::x3::x4::x5::x6::x7::x8::x9::x10::x11::x12::x13::x14::l)[14]?=some x14:=rfl
@[simp] theorem qIf{α:Type}(x0 x1 x2 x3 x4 x5 x6 x7 x8 x9 x10 x11 x12 x13 x14 y:α)(l:List α):(x0::x1::x2::x3::x4::x5::x6::x7::x8::x9::x10::x11::x12::x13::x14::l).set 14 y=x0::x1::x2::x3::x4::x5::x6::x7::x8::x9::x10::x11::x12::x13::y::l:=rfl
@[simp] theorem qIc{α:Type}(x0 x1 x2 x3 x4 x5 x6 x7 x8 x9 x10 x11 x12 x13 x14 x15:α)(l:List α):(x0::x1::x2::x3::x4::x5::x6::x7::x8::x9::x10::x11::x12::x13::x14::x15::l)[15]?=some x15:=rfl
@[simp] theorem qIe{α:Type}(x0 x1 x2 x3 x4 x5 x6 x7 x8 x9 x10 x11 x12 x13 x14 x15 y:α)(l:List α):(x0::x1::x2::x3::x4::x5::x6::x7::x8::x9::x10::x11::x12::x13::x14::x15::l).set 15 y=x0::x1::x2::x3::x4::x5::x6::x7::x8::x9::x10::x11::x12::x13::x14::y::l:=rfl
theorem zK{gl:List T}{tb:List Fn}{Cs:List (List Nat)}{k f:Nat}{vs:List T}{M:Mem}{np ns:Nat}{b:Ss}(ht:tb[f]?=some ⟨np,ns,b⟩)(hl:vs.length=np/\np<=ns)(hk:1<=k):
  Pk gl tb Cs k f vs M=QY M.length (pxs gl (Pk gl tb Cs (k-1)) (Cs.getD f []) b (vs.map some++List.replicate (ns-np) none) M):=by
 obtain⟨k,rfl⟩:∃j,k=j+1:=⟨k-1,by omega⟩
 rw[Pk,ht];dsimp only;rw[if_pos hl];rfl
theorem qA{M M1:Mem}{t:TB}(h:M1.length=M.length):QY M.length (.ok (.rt t,M1))=.ok (t,M1):=by
 show finish M.length t M1=_;unfold finish;rw[if_pos h]
theorem Zy{M M1:Mem}{σ:TS}(h:M1.length=M.length):QY M.length (.ok (.nx σ,M1))=.ok ((.v .non,true),M1):=by
 show finish M.length _ M1=_;unfold finish;rw[if_pos h]
noncomputable def N(n:Nat):T:=.v (.int (n:Int))
noncomputable def NL(L:List Nat):T:=.lst (L.map N)
theorem Y2(n:Nat):zO 0 n=(List.range n).map N:=by
 unfold zO N;simp
theorem qB6(L:List Nat):T.lfs (L.map N)=true:=by
 induction L with
 |nil=>rfl
 |cons x L ih=>rw[List.map_cons,Ql,ih];rfl
theorem qHh(n:Nat):(N n).lf=true:=by unfold N;rfl
theorem Jr:∀L:List Nat,ji (L.map N)=some (L.map λ(n:Nat)=>V.int (n:Int))
 | []=>rfl
 |x::L=>by
  show (ji (L.map N)).map _=_;rw[Jr L];rfl
theorem qGJ{M:Mem}(n:Nat)(L:List Nat):qd M .inn (N n) (NL L)=some (decide (n∈L)):=by
 show ((ji (L.map N)).map λxs=>xs.any λz=>_L.eqV z (.int (n:Int)))=_;rw[Jr,Option.map_some,List.any_map];congr 1;rw[wm];simp only[List.any_eq_true,Function.comp,uH];constructor
 ·rintro⟨x,hx,e⟩;have:x=n:=by
   have e':((x:Int)==(n:Int))=true:=e;rw[beq_iff_eq]at e';omega
  rwa [<-this]
 ·intro h;refine⟨n,h,?_⟩;show ((n:Int)==(n:Int))=true;rw[uK]
theorem F6{M:Mem}(n:Nat)(L:List Nat):qd M .notin (N n) (NL L)=some (!decide (n∈L)):=by
 have:=qGJ (M:=M) n L;show (inT M (N n) (NL L)).map (!·)=_;rw[show inT M (N n) (NL L)=some (decide (n∈L)) from this];rfl
theorem J5{M:Mem}{d:Nat}:∀(L K:List Nat),L.length=K.length->qf (eqT M d) (L.map N) (K.map N)=some (List.zipWith (λ(a b:Nat)=>decide (a=b)) L K)
 | [],[],_=>rfl
 | [],_::_,h=>by simp at h
 |_::_,[],h=>by simp at h
 |a::L,b::K,h=>by
  have e:eqT M d (N a) (N b)=some (decide (a=b)):=by
   have:eqF (.int (a:Int)) (.int (b:Int))=some (decide (a=b)):=by
    show some ((a:Int)==(b:Int))=_;congr 1;rw[wm,beq_iff_eq,uH];omega
   cases d<;>(unfold eqT;exact this)
  rw[List.map_cons,List.map_cons,qf,e,J5 L K (by simpa using h)];rfl
theorem T1:∀(L K:List Nat),L.length=K.length->((List.zipWith (λ(a b:Nat)=>decide (a=b)) L K).all id=decide (L=K))
 | [],[],_=>rfl
 | [],_::_,h=>by simp at h
 |_::_,[],h=>by simp at h
 |a::L,b::K,h=>by
  rw[List.zipWith_cons_cons,List.all_cons,T1 L K (by simpa using h)];by_cases h1:a=b<;>by_cases h2:L=K<;>simp[h1,h2]
theorem h9{M:Mem}{d:Nat}(L K:List Nat):eqT M (d+1) (NL L) (NL K)=some (decide (L=K)):=by
 unfold eqT;show (if (L.map N).length=(K.map N).length then (qf (eqT M d) (L.map N) (K.map N)).map (λbs=>bs.all id) else some false)=_;rw[wZ,wZ];by_cases h:L.length=K.length
 ·rw[if_pos h,J5 L K h,Option.map_some,T1 L K h]
 ·rw[if_neg h];congr 1;symm;exact uF (λe=>h (by rw[e]))
theorem qGv{M:Mem}(L K:List Nat):qd M .ne (NL L) (NL K)=some (!decide (L=K)):=by
 show (eqT M 4 (NL L) (NL K)).map (!·)=_;rw[h9];rfl
@[simp] theorem qD9{d:jn}{g:Tg}{b:TS->Mem->RSt}{σ:TS}{M:Mem}:zF d g b [] σ M=.ok (.nx σ,M):=rfl
@[simp] theorem zA{i:Nat}{b:TS->Mem->RSt}{x:T}{r:List T}{σ:TS}{M:Mem}:zF [] (.name i) b (x::r) σ M=(b (σ.set i (some x)) M).bind λp=>match p.1 with
   | .nx σ2=>zF [] (.name i) b r σ2 p.2
   | .ct σ2=>zF [] (.name i) b r σ2 p.2
   | .bk σ2=>.ok (.nx σ2,p.2)
   | .rt t=>.ok (.rt t,p.2):=rfl
theorem L1{c:TS->Mem->PR (Bool×Mem)}{e:TS->Mem->PR (TB×Mem)}{M:Mem}{σ:TS}(p:Nat->Bool)(f:Nat->T)(fr:Nat->Bool):∀(its:List Nat) (ys:List T) (b:Bool) (o:Option T),ys.length+its.length<=lim ->
  (∀x∈its,c (some (N x)::σ) M=.ok (p x,M))->(∀x∈its,p x=true->e (some (N x)::σ) M=.ok ((f x,fr x),M)) ->
  qI [] (.name 0) c e (its.map N) ys b (o::σ) M=.ok ((.lst (ys++(its.filter p).map f),b&&(its.filter p).all fr),M)
 | [],ys,b,o,hl,hc,he=>by simp[qI]
 |x::r,ys,b,o,hl,hc,he=>by
  rw[List.map_cons];unfold qI;rw[show zL (.name 0) (N x) (o::σ)=some (some (N x)::σ) from rfl];dsimp only;rw[hc x (wM ..)];rw[tD];dsimp only;cases hp:p x with
  |true=>
   rw[if_pos rfl,he x (wM ..) hp,tD];dsimp only;rw[if_pos ⟨by simp at hl;omega,rfl⟩];rw[L1 p f fr r (ys++[f x]) (b&&fr x) (some (N x)) (by simp at hl ⊢;omega) (λy hy=>hc y (wI _ hy)) (λy hy=>he y (wI _ hy))];rw[vB hp];simp[Bool.and_assoc]
  |false=>
   rw[if_neg (by decide),if_pos (show qh [] M=true from rfl)];rw[L1 p f fr r ys b (some (N x)) (by simp at hl ⊢;omega) (λy hy=>hc y (wI _ hy)) (λy hy=>he y (wI _ hy))];rw[vP (by rw[hp];decide)]
theorem jf{c:TS->Mem->PR (Bool×Mem)}{e:TS->Mem->PR (TB×Mem)}{M:Mem}{σ:TS}{o:Option T}{its:List Nat}(p:Nat->Bool)(g:Nat->Nat)(hl:its.length<=lim)
  (hc:∀x∈its,c (some (N x)::σ) M=.ok (p x,M)) (he:∀x∈its,p x=true->e (some (N x)::σ) M=.ok ((N (g x),true),M)):
  qI [] (.name 0) c e (its.map N) [] true (o::σ) M=.ok ((NL ((its.filter p).map g),true),M):=by
 rw[L1 p (λx=>N (g x)) (λ_=>true) its [] true o (by simpa using hl) hc he];unfold NL;simp
 all_goals rfl
@[simp] theorem zZ{M:Mem}(a b:Nat):qq M .add (N a) (N b)=some (N (a+b),true):=by unfold N;simp[iT]
theorem qGP(L:List Nat):T.lf (NL L)=false:=by unfold NL;simp
noncomputable def nE(n:Nat):E:=.cst (.int (n:Int))
@[simp] theorem qFg{gl:List T}{P:Nat->List T->Mem->PR (TB×Mem)}{σ:TS}{M:Mem}(n:Nat):pe gl P (nE n) σ M=.ok ((N n,true),M):=by unfold nE;rw[pe_int];rfl
section
variable{M:Mem}(a b:Nat) (xs:List T)
@[simp] theorem lfN:(N a).lf=true:=qHh a
@[simp] theorem qIE:(N a).isV=some (.int (a:Int)):=rfl
@[simp] theorem qIm:zX M (N a)=some "int":=rfl
@[simp] theorem qHZ(L:List Nat):zX M (NL L)=some "list":=rfl
theorem qAt{a b:Nat}(h:b<=a):qq M .sub (N a) (N b)=some (N (a-b),true):=by
 unfold N;rw[qD6];unfold iT;rw[Int.ofNat_sub h]
theorem Jm{a b:Nat}(h:a<18446744073709551616\/b<18446744073709551616):qq M .mul (N a) (N b)=some (N (a*b),true):=by
 unfold N;rw[qDC (by omega)];unfold iT;simp
theorem ZC{a b:Nat}(h:0<b/\b<1073741824):qq M .fdiv (N a) (N b)=some (N (a / b),true):=by
 unfold N;rw[qCx (by omega)];unfold iT;simp
theorem jz{a b:Nat}(h:0<b):qq M .mod (N a) (N b)=some (N (a % b),true):=by
 unfold N;rw[qBE (by omega)];unfold iT;simp
theorem G6{a b:Nat}(h:b<=1000/\a<1000000):qq M .pow (N a) (N b)=some (N (a ^ b),true):=by
 unfold N;rw[qAg (by omega)];unfold iT;simp
theorem qDQ{a b:Nat}(h:b<=1000/\a<1000000):qq M .shl (N a) (N b)=some (N (a*2 ^ b),true):=by
 unfold N;rw[qDY (by omega)];unfold iT;simp
@[simp] theorem QN:qd M .lt (N a) (N b)=some (decide (a<b)):=by unfold N;rw[qAU];simp
@[simp] theorem qFb:qd M .le (N a) (N b)=some (decide (a<=b)):=by unfold N;rw[y3];simp
@[simp] theorem C3:qd M .gt (N a) (N b)=some (decide (b<a)):=by unfold N;rw[qE3];simp
@[simp] theorem qDp:qd M .ge (N a) (N b)=some (decide (b<=a)):=by unfold N;rw[qGh];simp
@[simp] theorem jM:qd M .eq (N a) (N b)=some (decide (a=b)):=by unfold N;rw[qEH];congr 1;rw[wm,uH,uH];omega
@[simp] theorem O8:qd M .ne (N a) (N b)=some (!decide (a=b)):=by
 show ((eqT M 4 (N a) (N b)).map (!·))=_;rw[show eqT M 4 (N a) (N b)=some (decide (a=b)) from jM (M:=M) a b];rfl
@[simp] theorem Qv:zr M (.lst xs) (N a)=(xs[a]?).map λt=>(t,t.lf):=by
 show ((_L.ixN xs.length (a:Int)).bind λj=>(xs[j]?).map λt=>(t,t.lf))=_;unfold _L.ixN;rw[if_pos (by omega)];split
 ·simp
 ·rw[wd (by omega)];rfl
@[simp] theorem l0:zr M (.tup xs) (N a)=(xs[a]?).map λt=>(t,t.lf):=by
 show ((_L.ixN xs.length (a:Int)).bind λj=>(xs[j]?).map λt=>(t,t.lf))=_;unfold _L.ixN;rw[if_pos (by omega)];split
 ·simp
 ·rw[wd (by omega)];rfl
@[simp] theorem j8:zG M .len [.lst xs]=some (N xs.length,true):=rfl
@[simp] theorem U4:zG M .len [.tup xs]=some (N xs.length,true):=rfl
@[simp] theorem qHA:zG M .len [.fz xs]=some (N xs.length,true):=rfl
@[simp] theorem qHX:zG M .max [N a,N b]=some (N (max a b),true):=by
 unfold N;rw[qEs];unfold iT;congr 4;split<;>omega
@[simp] theorem qGr:zG M .min [N a,N b]=some (N (min a b),true):=by
 unfold N;rw[qEj];unfold iT;congr 4;split<;>omega
@[simp] theorem qIL:zG M .int [N a]=some (N a,true):=rfl
@[simp] theorem qHT(t:Bool):zG M .int [.v (.bl t)]=some (N t.toNat,true):=by cases t<;>rfl
@[simp] theorem qHV:zG M .bits [N a]=some (N (PySem.Builtin.Int.intBits (a:Int)),true):=rfl
theorem X6:qq M .band (N a) (N b)=some (N (a&&& b),true):=by
 unfold N;rw[qCh];unfold iT;rfl
end
theorem zl{n:Nat}(hn:n<=1000000):qEr (N n)=some ((List.range n).map N):=by
 show (if -1000000<=(n:Int)/\(n:Int)<=1000000 then some (zO 0 (n:Int).toNat) else none)=_;rw[if_pos (by omega),vV,Y2]
theorem qCJ{n:Nat}(hn:n<=100000):O7 (N n)=some ((List.range n).map N):=by
 show (if -1000000<=(n:Int)/\(n:Int)<=100000 then some (zO 0 (n:Int).toNat) else none)=_;rw[if_pos (by omega),vV,Y2]
theorem qAy{M:Mem}{n j:Nat}{xs:List T}{x:T}(h:M[n]?=some xs)(hj:j<xs.length):Y8 M (.cell n) (N j) x=some (M.set n (xs.set j x)):=by
 show ((M[n]?).bind λxs=>(_L.ixN xs.length (j:Int)).map λj=>M.set n (xs.set j x))=_;rw[h];show (_L.ixN xs.length (j:Int)).map _=_;unfold _L.ixN;rw[if_pos (by omega),if_pos (by omega)];simp
@[simp] theorem qHI{M:Mem}(L:List Nat):Zi M (NL L)=some (L.map N,[]):=rfl
@[simp] theorem qG3{M:Mem}(x f:Bool):pB (PR.ok ((T.v (V.bl x),f),M))=.ok (x,M):=Eq.trans rfl rfl
theorem jP{α:Type}:∀l:List α,l.filter (λ_=>true)=l
 | []=>rfl
 |x::l=>by rw[vB rfl,jP l]
@[simp] theorem qDd{M:Mem}{n a:Nat}:zr M (.cell n) (N a)=(M[n]?).bind λxs=>(xs[a]?).map λt=>(t,t.lf):=by
 show ((M[n]?).bind λxs=>(_L.ixN xs.length (a:Int)).bind λj=>(xs[j]?).map λt=>(t,t.lf))=_;congr 1
 funext xs
 exact Qv (M:=M) a xs
theorem qBx{M:Mem}{n:Nat}{x:T}:r9 M n x=(M[n]?).bind λxs=>if xs.length<lim then some (M.set n (xs++[x])) else none:=rfl
@[simp] theorem qG0(a:Nat):qBV (N a)=some (iT (-(a:Int))):=rfl
@[simp] theorem qGw(a:Int):qBV (.v (.int a))=some (iT (-a)):=rfl
@[simp] theorem qIP(a:Nat):zI [N a]=some [(a:Int)]:=rfl
@[simp] theorem qHi:zI []=some []:=rfl
@[simp] theorem qHY{M:Mem}(xs:List T):T.its M (.lst xs)=some xs:=rfl
@[simp] theorem qH7{M:Mem}(xs:List T):T.its M (.fz xs)=some xs:=rfl
@[simp] theorem qHz{M:Mem}(xs:List T):T.its M (.tup xs)=some xs:=rfl
@[simp] theorem qHm{M:Mem}(L:List Nat):T.its M (NL L)=some (L.map N):=rfl
@[simp] theorem qGk(ys xs:List T)(lo hi:Option Int):qCX (.lst ys) xs lo hi=some (lT (v4 xs lo hi)):=rfl
@[simp] theorem qG2(ys xs:List T)(lo hi:Option Int):qCX (.fz ys) xs lo hi=some (lT (v4 xs lo hi)):=rfl
@[simp] theorem qG8(L:List Nat)(xs:List T)(lo hi:Option Int):qCX (NL L) xs lo hi=some (lT (v4 xs lo hi)):=rfl
@[simp] theorem qHP(n:Nat)(xs:List T)(lo hi:Option Int):qCX (.cell n) xs lo hi=some (lT (v4 xs lo hi)):=rfl
@[simp] theorem qGb{M:Mem}(xs:List T):T.lis M (.lst xs)=some xs:=rfl
@[simp] theorem qIB{M:Mem}(xs:List T):T.lis M (.fz xs)=some xs:=rfl
@[simp] theorem qH5{M:Mem}(L:List Nat):T.lis M (NL L)=some (L.map N):=rfl
@[simp] theorem qFS(i j:Nat)(a b:T)(σ:TS):zL (.tup [i,j]) (.tup [a,b]) σ=some ((σ.set i (some a)).set j (some b)):=rfl
@[simp] theorem qC8(σ:TS):jq [] σ=[]:=rfl
@[simp] theorem qBc(r:List (Option Nat))(σ:TS):jq (none::r) σ=none::jq r σ:=rfl
@[simp] theorem qCk(j:Nat)(r:List (Option Nat))(σ:TS):jq (some j::r) σ=(σ[j]?).join::jq r σ:=rfl
theorem U3(x:V)(f:Bool)(M1:Mem):∃b M2,QY ([]:Mem).length (.ok (.rt (.v x,f),M1))=.ok ((.v x,b),M2):=by
 show ∃b M2,finish 0 (.v x,f) M1=_;unfold finish;by_cases h:M1.length=0
 ·rw[if_pos h];exact⟨f,M1,rfl⟩
 ·rw[if_neg h,if_pos (by simp)];rw[show qM M1 0 6 (T.v x)=some (.v x) by unfold qM;rw[if_pos (by unfold T.und;rfl)]];exact⟨_,_,rfl⟩
mutual
theorem l9:∀t:T,T.beq t t=true
 | .v x=>by unfold T.beq;simp
 | .cell x=>by unfold T.beq;simp
 | .ob x=>by unfold T.beq;simp
 | .fz xs=>by unfold T.beq;exact jJ xs
 | .lst xs=>by unfold T.beq;exact jJ xs
 | .tup xs=>by unfold T.beq;exact jJ xs
theorem jJ:∀ts:List T,T.beqs ts ts=true
 | []=>rfl
 |t::ts=>by unfold T.beqs;rw[l9 t,jJ ts];rfl
end
mutual
theorem z0{a b:Nat}(h:a<=b):∀t:T,t.und a=true->t.und b=true
 | .v x,_=>rfl
 | .cell k,e=>by unfold T.und at e ⊢;simp at e ⊢;omega
 | .ob x,_=>rfl
 | .fz xs,e=>by unfold T.und at e ⊢;exact zq h xs e
 | .lst xs,e=>by unfold T.und at e ⊢;exact zq h xs e
 | .tup xs,e=>by unfold T.und at e ⊢;exact zq h xs e
theorem zq{a b:Nat}(h:a<=b):∀ts:List T,T.unds a ts=true->T.unds b ts=true
 | [],_=>rfl
 |t::ts,e=>by unfold T.unds at e ⊢;rw[wC]at e;rw[z0 h t e.1,zq h ts e.2];rfl
end
def FlatM(M:Mem):Prop:=∀c∈M,T.unds 0 c=true
theorem FlatM.all{M:Mem}(h:FlatM M)(n:Nat):M.all (T.unds n)=true:=by
 rw[wU];exact λc hc=>zq (vv _) c (h c hc)
theorem FlatM.app{A B:Mem}(h:FlatM A)(k:FlatM B):FlatM (A++B):=λc hc=>by
 rcases wJ.mp hc with z|z
 ·exact h c z
 ·exact k c z
theorem qFZ(n a:Nat):(N a).und n=true:=by unfold N T.und;rfl
theorem Z6(n:Nat):∀L:List Nat,T.unds n (L.map N)=true
 | []=>rfl
 |x::L=>by rw[List.map_cons];unfold T.unds;rw[qFZ,Z6 n L];rfl
theorem Zq{d:jn}{c:TS->Mem->PR (Bool×Mem)}{e:TS->Mem->PR (TB×Mem)}{M:Mem}{σ:TS}(p:Nat->Bool)(f:Nat->T)(fr:Nat->Bool):∀(its:List Nat) (ys:List T) (b:Bool) (o:Option T),qh d M=true->ys.length+its.length<=lim ->
  (∀x∈its,c (some (N x)::σ) M=.ok (p x,M))->(∀x∈its,p x=true->e (some (N x)::σ) M=.ok ((f x,fr x),M)) ->
  qI d (.name 0) c e (its.map N) ys b (o::σ) M=.ok ((.lst (ys++(its.filter p).map f),b&&(its.filter p).all fr),M)
 | [],ys,b,o,hd,hl,hc,he=>by simp[qI]
 |x::r,ys,b,o,hd,hl,hc,he=>by
  rw[List.map_cons];unfold qI;rw[show zL (.name 0) (N x) (o::σ)=some (some (N x)::σ) from rfl];dsimp only;rw[hc x (wM ..)];rw[tD];dsimp only;cases hp:p x with
  |true=>
   rw[if_pos rfl,he x (wM ..) hp,tD];dsimp only;rw[if_pos ⟨by simp at hl;omega,hd⟩];rw[Zq p f fr r (ys++[f x]) (b&&fr x) (some (N x)) hd (by simp at hl ⊢;omega) (λy hy=>hc y (wI _ hy)) (λy hy=>he y (wI _ hy))];rw[vB hp];simp[Bool.and_assoc]
  |false=>
   rw[if_neg (by decide),if_pos hd];rw[Zq p f fr r ys b (some (N x)) hd (by simp at hl ⊢;omega) (λy hy=>hc y (wI _ hy)) (λy hy=>he y (wI _ hy))];rw[vP (by rw[hp];decide)]
theorem B8{M:Mem}{d:Nat}{a b c e:T}{x y:Bool}(h1:eqT M d a c=some x)(h2:eqT M d b e=some y):eqT M (d+1) (.tup [a,b]) (.tup [c,e])=some (x&&y):=by
 unfold eqT;show (if ([a,b]:List T).length=[c,e].length then (qf (eqT M d) [a,b] [c,e]).map (λ(bs:List Bool)=>bs.all id) else _)=_;rw[if_pos (by simp)];unfold qf;rw[h1];unfold qf;rw[h2];simp[qf]
theorem T7{M:Mem}{n:Nat}{ts:List T}(h:M[n]?=some ts):qh [(n,ts)] M=true:=by
 unfold qh;simp[h,jJ]
theorem B5{M:Mem}{n:Nat}{ts:List T}(h:M[n]?=some ts):Zi M (.cell n)=some (ts,[(n,ts)]):=by
 unfold Zi;dsimp only;rw[h];rfl
theorem qGY{M:Mem}{n:Nat}{ts:List T}(h:M[n]?=some ts):zX M (.cell n)=some "list":=by
 unfold zX;dsimp only;rw[h];rfl
structure IsL(M:Mem)(t:T)(L:List Nat):Prop where
 its:t.its M=some (L.map N)
 lis:t.lis M=some (L.map N)
 ty:zX M t=some "list"
 src:∃d,Zi M t=some (L.map N,d)/\ZS M t=some (L.map N,d)/\qh d M=true
 nv:t.isV=none
theorem IsL.nl(M:Mem)(L:List Nat):IsL M (NL L) L:=⟨rfl,rfl,rfl,⟨[],rfl,rfl,rfl⟩,rfl⟩
theorem IsL.cell{M:Mem}{n:Nat}{L:List Nat}(h:M[n]?=some (L.map N)):IsL M (.cell n) L:=⟨h,h,qGY h,⟨_,B5 h,B5 h,T7 h⟩,rfl⟩
section
variable{M:Mem}{t u:T}{L K:List Nat}
theorem IsL.len(h:IsL M t L):zG M .len [t]=some (N L.length,true):=by
 show (t.its M).map _=_;rw[h.its,Option.map_some,wZ];rfl
theorem IsL.list(h:IsL M t L):zG M .list [t]=some (NL L,true):=by
 show (t.its M).map lT=_;rw[h.its,Option.map_some];show some (T.lst (L.map N),T.lfs (L.map N))=_;rw[qB6];rfl
theorem X4:∀L:List Nat,zI (L.map N)=some (L.map λ(n:Nat)=>(n:Int))
 | []=>rfl
 |x::L=>by
  show (zI (L.map N)).map _=_;rw[X4 L];rfl
theorem qA1:∀L:List Nat,jg (L.map N)=some (L.map λ(n:Nat)=>(n:Int))
 | []=>rfl
 |x::L=>by
  show (jg (L.map N)).map _=_;rw[qA1 L];rfl
theorem J6:∀L:List Nat,(L.map λ(n:Nat)=>(n:Int)).sum=((L.sum:Nat):Int)
 | []=>rfl
 |x::L=>by rw[List.map_cons,List.sum_cons,J6 L,List.sum_cons];simp
theorem IsL.sum(h:IsL M t L):zG M .sum [t]=some (N L.sum,true):=by
 show (t.lis M).bind _=_;rw[h.lis,Option.bind_some,qA1,Option.map_some,J6];rfl
theorem IsL.idx(h:IsL M t L){i:Nat}{x:Nat}(e:L[i]?=some x):zr M t (N i)=some (N x,true):=by
 show ((t.its M).bind λxs=>(_L.ixN xs.length (i:Int)).bind λj=>(xs[j]?).map λt=>(t,t.lf))=_;rw[h.its,Option.bind_some];have:=Qv (M:=M) i (L.map N);rw[show zr M (.lst (L.map N)) (N i)=((_L.ixN (L.map N).length (i:Int)).bind λj=>((L.map N)[j]?).map λt=>(t,t.lf)) from rfl]at this;rw[this,wj,e];simp
theorem IsL.eq(h:IsL M t L)(k:IsL M u K):eqT M 4 t u=some (decide (L=K)):=by
 have:=h9 (M:=M) (d:=3) L K;unfold eqT at this ⊢;rw[h.nv,k.nv,h.lis,k.lis];exact this
theorem IsL.cne(h:IsL M t L)(k:IsL M u K):qd M .ne t u=some (!decide (L=K)):=by
 show (eqT M 4 t u).map (!·)=_;rw[h.eq k];rfl
end
theorem g9{α:Type}(p:α->Bool):∀L:List α,zw (L.map λx=>T.v (.bl (p x)))=some (L.map p)
 | []=>rfl
 |x::L=>by
  show (zw (L.map λx=>T.v (.bl (p x)))).map _=_;rw[g9 p L];rfl
theorem y6{M:Mem}{α:Type}(p:α->Bool)(L:List α):zG M .all [.lst (L.map λx=>T.v (.bl (p x)))]=some (bT (L.all p)):=by
 show (zw _).map _=_;rw[g9,Option.map_some,List.all_map];rfl
theorem qG1(K:List Nat):lT (K.map N)=(NL K,true):=by unfold lT;rw[qB6];rfl
theorem getD_some{L:List Nat}{i:Nat}(h:i<L.length):L[i]?=some (L.getD i 0):=by
 rw[wa,wE h];rfl
def IsS(M:Mem)(t:T)(ts:List T):Prop:=t=.lst ts\/∃m,t=.cell m/\M[m]?=some ts
section
variable{M C:Mem}{t:T}{ts:List T}
theorem IsS.app(h:IsS M t ts):IsS (M++C) t ts:=by
 rcases h with h|⟨m,h,e⟩
 ·exact .inl h
 ·exact .inr ⟨m,h,by rw[wD (wB.mp e).1];exact e⟩
theorem IsS.its(h:IsS M t ts):t.its M=some ts:=by rcases h with rfl|⟨m,rfl,e⟩;rfl;exact e
theorem IsS.lis(h:IsS M t ts):t.lis M=some ts:=by rcases h with rfl|⟨m,rfl,e⟩;rfl;exact e
theorem IsS.ty(h:IsS M t ts):zX M t=some "list":=by rcases h with rfl|⟨m,rfl,e⟩;rfl;exact qGY e
theorem IsS.nv(h:IsS M t ts):t.isV=none:=by rcases h with rfl|⟨m,rfl,e⟩<;>rfl
theorem IsS.lf(h:IsS M t ts):t.lf=false:=by rcases h with rfl|⟨m,rfl,e⟩<;>simp
theorem IsS.src(h:IsS M t ts):∃d,Zi M t=some (ts,d)/\ZS M t=some (ts,d)/\∀C,qh d (M++C)=true:=by
 rcases h with rfl|⟨m,rfl,e⟩
 ·exact⟨[],rfl,rfl,λ_=>rfl⟩
 ·exact⟨_,B5 e,B5 e,λC=>T7 (by rw[wD (wB.mp e).1];exact e)⟩
theorem IsS.len(h:IsS M t ts):zG M .len [t]=some (N ts.length,true):=by
 show (t.its M).map _=_;rw[h.its,Option.map_some];rfl
theorem IsS.idx(h:IsS M t ts)(i:Nat):zr M t (N i)=(ts[i]?).map λt=>(t,t.lf):=by
 have a:zr M t (N i)=zr M (.lst ts) (N i):=by
  show (t.its M).bind _=_;rw[h.its];rfl
 rw[a,Qv]
theorem IsS.list(h:IsS M t ts):zG M .list [t]=some (lT ts):=by
 show (t.its M).map lT=_;rw[h.its];rfl
theorem IsS.isL{L:List Nat}(h:IsS M t (L.map N)):IsL M t L:=by
 rcases h with rfl|⟨m,rfl,e⟩
 ·exact IsL.nl M L
 ·exact IsL.cell e
theorem IsS.eqT{u:T}{us:List T}{d:Nat}{bs:List Bool}(h:IsS M t ts)(k:IsS M u us)(hl:ts.length=us.length)(e:qf (eqT M d) ts us=some bs):_P.eqT M (d+1) t u=some (bs.all id):=by
 unfold _P.eqT;rw[h.nv,k.nv,h.lis,k.lis];dsimp only;rw[if_pos hl,e];rfl
end
def WfM(M:Mem):Prop:=M.all (T.unds M.length)=true
theorem WfM.app{M C:Mem}(h:WfM M)(hC:∀c∈C,T.unds (M++C).length c=true):WfM (M++C):=by
 unfold WfM at *;rw[wU]at h ⊢;intro c hc;rcases wJ.mp hc with z|z
 ·exact zq (by simp) c (h c z)
 ·exact hC c z
theorem FlatM.wf{M:Mem}(h:FlatM M):WfM M:=h.all _
theorem WfM.one{M:Mem}(h:WfM M){ts:List T}(l:T.lfs ts=true):WfM (M++[ts]):=h.app λc hc=>by rw[wo.mp hc];exact D2 _ _ l
theorem ZO{M:Mem}{n0 d:Nat}:∀ts:List T,T.lfs ts=true->ts.mapM (qM M n0 d)=some ts
 | [],_=>rfl
 |t::ts,h=>by
  rw[Ql,wC]at h;have e:qM M n0 d t=some t:=by cases d<;>(unfold qM;rw[if_pos (G5 n0 t h.1)])
  rw[List.mapM_cons,e,ZO ts h.2];rfl
theorem N2{M:Mem}{n0 d:Nat}:∀ts:List T,T.lfs ts=true->ts.mapM (jW M n0 d)=some (ts.map λ_=>[])
 | [],_=>rfl
 |t::ts,h=>by
  rw[Ql,wC]at h;have e:jW M n0 d t=some []:=by cases d<;>(unfold jW;rw[if_pos h.1])
  rw[List.mapM_cons,e,N2 ts h.2];rfl
theorem O4(L:List T):(L.map λ_=>([]:List Nat)).flatten=[]:=by
 induction L with
 |nil=>rfl
 |cons x L ih=>rw[List.map_cons,List.flatten_cons,ih];rfl
theorem Zn{M A C:Mem}{c:Nat}{ts:List T}(hA:A.length=M.length)(hW:WfM A)(hc:(A++C)[c]?=some ts)(hn:A.length<=c)(hl:T.lfs ts=true)(f:Bool):QY M.length (.ok (.rt (.cell c,f),A++C))=.ok ((.lst ts,true),A):=by
 show finish M.length _ _=_;unfold finish;have hlt:=(wB.mp hc).1;rw[wT]at hlt;rw[<-hA,if_neg (by rw[wT];omega),vU rfl,if_pos (show A.all (T.unds A.length)=true from hW)];have r:qM (A++C) A.length 6 (.cell c)=some (.lst ts):=by
  unfold qM;rw[if_neg (by unfold T.und;simp;omega)];dsimp only;rw[hc,Option.bind_some,ZO _ hl];rfl
 have i:frR (A++C) A.length (.cell c)=true:=by
  unfold frR;rw[show jW (A++C) A.length 6 (.cell c)=some [c] by
   unfold jW;rw[if_neg (by rw[qCu];decide)];dsimp only;rw[if_pos hn,hc,Option.bind_some,N2 _ hl,Option.map_some,O4];rfl]
  simp
 dsimp only;rw[r,PR.ofO_some,tD,i,Bool.or_true]
theorem qBn{M A C:Mem}{b:Bool}(hA:A.length=M.length)(hW:WfM A):QY M.length (.ok (.rt (bT b),A++C))=.ok (bT b,A):=by
 show finish M.length _ _=_;unfold finish;rw[<-hA];by_cases hb:(A++C).length=A.length
 ·have:C=[]:=wb.mp (by simp at hb;simp[hb]);subst this;rw[if_pos hb,wO]
 ·rw[if_neg hb,vU rfl,if_pos (show A.all (T.unds A.length)=true from hW)];rw[show qM (A++C) A.length 6 (bT b).1=some (bT b).1 by unfold qM;rw[if_pos (G5 _ _ rfl)]];rfl
section
variable{gl:List T}{P:Nat->List T->Mem->PR (TB×Mem)}{M:Mem}{t:T}{l:TS}
@[simp high] theorem qS:pe gl P (.var 0) (some t::l) M=.ok ((t,t.lf),M):=Eq.trans rfl rfl
@[simp high] theorem qY{x0:Option T}:pe gl P (.var 1) (x0::some t::l) M=.ok ((t,t.lf),M):=Eq.trans rfl rfl
@[simp high] theorem zH{x0 x1:Option T}:pe gl P (.var 2) (x0::x1::some t::l) M=.ok ((t,t.lf),M):=Eq.trans rfl rfl
@[simp high] theorem zo{x0 x1 x2:Option T}:pe gl P (.var 3) (x0::x1::x2::some t::l) M=.ok ((t,t.lf),M):=Eq.trans rfl rfl
@[simp high] theorem E9{x0 x1 x2 x3:Option T}:pe gl P (.var 4) (x0::x1::x2::x3::some t::l) M=.ok ((t,t.lf),M):=Eq.trans rfl rfl
@[simp high] theorem C4{x0 x1 x2 x3 x4:Option T}:pe gl P (.var 5) (x0::x1::x2::x3::x4::some t::l) M=.ok ((t,t.lf),M):=Eq.trans rfl rfl
@[simp high] theorem E7{x0 x1 x2 x3 x4 x5:Option T}:pe gl P (.var 6) (x0::x1::x2::x3::x4::x5::some t::l) M=.ok ((t,t.lf),M):=Eq.trans rfl rfl
@[simp high] theorem m8{x0 x1 x2 x3 x4 x5 x6:Option T}:pe gl P (.var 7) (x0::x1::x2::x3::x4::x5::x6::some t::l) M=.ok ((t,t.lf),M):=Eq.trans rfl rfl
@[simp high] theorem qHa{x0 x1 x2 x3 x4 x5 x6 x7:Option T}:pe gl P (.var 8) (x0::x1::x2::x3::x4::x5::x6::x7::some t::l) M=.ok ((t,t.lf),M):=Eq.trans rfl rfl
@[simp high] theorem qF3{x0 x1 x2 x3 x4 x5 x6 x7 x8:Option T}:pe gl P (.var 9) (x0::x1::x2::x3::x4::x5::x6::x7::x8::some t::l) M=.ok ((t,t.lf),M):=Eq.trans rfl rfl
@[simp high] theorem qDV{x0 x1 x2 x3 x4 x5 x6 x7 x8 x9:Option T}:pe gl P (.var 10) (x0::x1::x2::x3::x4::x5::x6::x7::x8::x9::some t::l) M=.ok ((t,t.lf),M):=Eq.trans rfl rfl
@[simp high] theorem qA5{x0 x1 x2 x3 x4 x5 x6 x7 x8 x9 x10:Option T}:pe gl P (.var 11) (x0::x1::x2::x3::x4::x5::x6::x7::x8::x9::x10::some t::l) M=.ok ((t,t.lf),M):=Eq.trans rfl rfl
@[simp high] theorem qE1{x0 x1 x2 x3 x4 x5 x6 x7 x8 x9 x10 x11:Option T}:pe gl P (.var 12) (x0::x1::x2::x3::x4::x5::x6::x7::x8::x9::x10::x11::some t::l) M=.ok ((t,t.lf),M):=Eq.trans rfl rfl
@[simp high] theorem qHH{x0 x1 x2 x3 x4 x5 x6 x7 x8 x9 x10 x11 x12:Option T}:pe gl P (.var 13) (x0::x1::x2::x3::x4::x5::x6::x7::x8::x9::x10::x11::x12::some t::l) M=.ok ((t,t.lf),M):=Eq.trans rfl rfl
@[simp high] theorem qG5{y z:Option T}:(y::l:TS).set 0 z=z::l:=Eq.trans rfl rfl
@[simp high] theorem jp{x0 y z:Option T}:(x0::y::l:TS).set 1 z=x0::z::l:=Eq.trans rfl rfl
@[simp high] theorem zP{x0 x1 y z:Option T}:(x0::x1::y::l:TS).set 2 z=x0::x1::z::l:=Eq.trans rfl rfl
@[simp high] theorem zk{x0 x1 x2 y z:Option T}:(x0::x1::x2::y::l:TS).set 3 z=x0::x1::x2::z::l:=Eq.trans rfl rfl
@[simp high] theorem Jo{x0 x1 x2 x3 y z:Option T}:(x0::x1::x2::x3::y::l:TS).set 4 z=x0::x1::x2::x3::z::l:=Eq.trans rfl rfl
@[simp high] theorem JZ{x0 x1 x2 x3 x4 y z:Option T}:(x0::x1::x2::x3::x4::y::l:TS).set 5 z=x0::x1::x2::x3::x4::z::l:=Eq.trans rfl rfl
@[simp high] theorem qAf{x0 x1 x2 x3 x4 x5 y z:Option T}:(x0::x1::x2::x3::x4::x5::y::l:TS).set 6 z=x0::x1::x2::x3::x4::x5::z::l:=Eq.trans rfl rfl
@[simp high] theorem qEv{x0 x1 x2 x3 x4 x5 x6 y z:Option T}:(x0::x1::x2::x3::x4::x5::x6::y::l:TS).set 7 z=x0::x1::x2::x3::x4::x5::x6::z::l:=Eq.trans rfl rfl
@[simp high] theorem qHB{x0 x1 x2 x3 x4 x5 x6 x7 y z:Option T}:(x0::x1::x2::x3::x4::x5::x6::x7::y::l:TS).set 8 z=x0::x1::x2::x3::x4::x5::x6::x7::z::l:=Eq.trans rfl rfl
@[simp high] theorem qFG{x0 x1 x2 x3 x4 x5 x6 x7 x8 y z:Option T}:(x0::x1::x2::x3::x4::x5::x6::x7::x8::y::l:TS).set 9 z=x0::x1::x2::x3::x4::x5::x6::x7::x8::z::l:=Eq.trans rfl rfl
@[simp high] theorem qCj{x0 x1 x2 x3 x4 x5 x6 x7 x8 x9 y z:Option T}:(x0::x1::x2::x3::x4::x5::x6::x7::x8::x9::y::l:TS).set 10 z=x0::x1::x2::x3::x4::x5::x6::x7::x8::x9::z::l:=Eq.trans rfl rfl
@[simp high] theorem qCO{x0 x1 x2 x3 x4 x5 x6 x7 x8 x9 x10 y z:Option T}:(x0::x1::x2::x3::x4::x5::x6::x7::x8::x9::x10::y::l:TS).set 11 z=x0::x1::x2::x3::x4::x5::x6::x7::x8::x9::x10::z::l:=Eq.trans rfl rfl
@[simp high] theorem qCt{x0 x1 x2 x3 x4 x5 x6 x7 x8 x9 x10 x11 y z:Option T}:(x0::x1::x2::x3::x4::x5::x6::x7::x8::x9::x10::x11::y::l:TS).set 12 z=x0::x1::x2::x3::x4::x5::x6::x7::x8::x9::x10::x11::z::l:=Eq.trans rfl rfl
@[simp high] theorem qF4{x0 x1 x2 x3 x4 x5 x6 x7 x8 x9 x10 x11 x12 y z:Option T}:(x0::x1::x2::x3::x4::x5::x6::x7::x8::x9::x10::x11::x12::y::l:TS).set 13 z=x0::x1::x2::x3::x4::x5::x6::x7::x8::x9::x10::x11::x12::z::l:=Eq.trans rfl rfl
variable{σ:TS}{C:List Nat}{e:E}{i:Nat}
theorem qDl(h:(C.contains i||C.contains (i+1000))=false):px gl P C (.asg (.name i) e) σ M=(pe gl P e σ M).bind λp=>.ok (.nx (σ.set i (some p.1.1)),p.2):=by
 rw[Bool.or_eq_false_iff]at h;rw[W5,h.1,h.2];rfl
@[simp high] theorem qGx:px gl P [] (.asg (.name i) e) σ M=(pe gl P e σ M).bind λp=>.ok (.nx (σ.set i (some p.1.1)),p.2):=qDl rfl
variable{s:S}{r t0 u0:Ss}{σ':TS}{M':Mem}{c:E}{b:Bool}
theorem JK(e:px gl P C s σ M=.ok (.nx σ',M')):pxs gl P C (.cons s r) σ M=pxs gl P C r σ' M':=by rw[ql,e];rfl
theorem F2:pxs gl P C (.cons s .nil) σ M=px gl P C s σ M:=by
 rw[ql];cases px gl P C s σ M with
 |ok p=>obtain⟨o,M'⟩:=p;cases o<;>rfl
 |_=>rfl
section
variable{i f:Nat}{a b d z:E}{u v w:T}{fa fb fc fd:Bool}{M1 M2 M3 M4:Mem}{r:TB}
theorem qm(ha:pe gl P a σ M=.ok ((t,fa),M1))(hb:pe gl P b σ M1=.ok ((u,fb),M2))(h:zr M2 t u=some r):pe gl P (.idx a b) σ M=.ok (r,M2):=by
 rw[qE0,ha,tD,hb,tD,h];rfl
theorem zJ{op:BOp}(ha:pe gl P a σ M=.ok ((t,fa),M1))(hb:pe gl P b σ M1=.ok ((u,fb),M2))(h:qq M2 op t u=some r):pe gl P (.bin op a b) σ M=.ok (r,M2):=by
 rw[qFD,ha,tD,hb,tD,h];rfl
theorem qo{op:COp}{x:Bool}(ha:pe gl P a σ M=.ok ((t,fa),M1))(hb:pe gl P b σ M1=.ok ((u,fb),M2))(h:qd M2 op t u=some x):pe gl P (.cmp op a b) σ M=.ok (bT x,M2):=by
 rw[qAq,ha,tD,hb,tD,h];rfl
theorem qFs(h:pe gl P a σ M=.ok ((t,fa),M1))(hC:(C.contains i||C.contains (i+1000))=false):px gl P C (.asg (.name i) a) σ M=.ok (.nx (σ.set i (some t)),M1):=by
 rw[qDl hC,h];rfl
theorem qF8{n:Nat}(ha:pe gl P a σ M=.ok ((.cell n,fa),M1))(hb:pe gl P b σ M1=.ok ((u,fb),M2))(h:r9 M2 n u=some M3):px gl P C (.expr (.app a b)) σ M=.ok (.nx σ,M3):=by
 rw[U0,qDK,ha,tD];show ((pe gl P b σ M1).bind _).bind _=_;rw[hb,tD];show ((tH (r9 M2 n u)).bind _).bind _=_;rw[h];rfl
end
end
noncomputable def apS:Ss->Ss->Ss
 | .nil,r=>r
 | .cons s t,r=>.cons s (apS t r)
def Cnd{α:Type}(y:Bool)(A B q:PR α):Prop:=(if y=true then A else B)=q/\True
theorem cT{α:Type}{A B q:PR α}(h:A=q):Cnd true A B q:=⟨h,trivial⟩
theorem cF{α:Type}{A B q:PR α}(h:B=q):Cnd false A B q:=⟨h,trivial⟩
theorem ll0:([]:List T).length<=lim:=(by decide:0<=lim)
theorem ll2{x0 x1:T}:[x0,x1].length<=lim:=(by decide:2<=lim)
theorem ll3{x0 x1 x2:T}:[x0,x1,x2].length<=lim:=(by decide:3<=lim)
theorem isT:true=true:=rfl
theorem isF:false=false:=rfl
theorem dT{p:Prop}{h:Decidable p}(hp:p):decide p=true:=uG hp
theorem dF{p:Prop}{h:Decidable p}(hp:¬ p):decide p=false:=uF hp
theorem nT{x:Bool}(h:x=false):(!x)=true:=by rw[h];rfl
theorem nF{x:Bool}(h:x=true):(!x)=false:=by rw[h];rfl
section
variable{gl:List T}{P:Nat->List T->Mem->PR (TB×Mem)}{C:List Nat}{σ σ':TS}{M M1 M2 M3 M4:Mem}
def PL(gl:List T)(P:Nat->List T->Mem->PR (TB×Mem))(as:Es)(σ:TS)(M:Mem)(ts:List T)(f:Bool)(M1:Mem):Prop:=∃xs,pes gl P as σ M=.ok (xs,M1)/\xs.map (·.1)=ts/\xs.all (·.2)=f/\xs.length=ts.length
variable{i f g:Nat}{a b c e:E}{as:Es}{t u v:T}{fa fb fc x y:Bool}{ts us:List T}{r:TB}{s:S}{rs t0 u0:Ss}{q:PR (PO×Mem)}
theorem qU:PL gl P .nil σ M [] true M:=⟨[],rfl,rfl,rfl,rfl⟩
theorem qG(ha:pe gl P a σ M=.ok ((t,fa),M1))(hb:PL gl P as σ M1 ts fb M2):PL gl P (.cons a as) σ M (t::ts) (fa&&fb) M2:=by
 obtain⟨xs,e,rfl,rfl,h⟩:=hb;refine⟨(t,fa)::xs,?_,rfl,rfl,congrArg (· + 1) h⟩;rw[qAW,ha,tD,e];rfl
theorem ze{n:Nat}:pe gl P (nE n) σ M=.ok ((N n,true),M):=qFg n
theorem qGz{x:Bool}:pe gl P (.cst (.bl x)) σ M=.ok ((.v (.bl x),true),M):=rfl
theorem p0:pe gl P (.cst .non) σ M=.ok ((.v .non,true),M):=rfl
theorem qO(h:PL gl P as σ M ts fa M1)(hp:P f ts M1=.ok (r,M2)):pe gl P (.call f as) σ M=.ok (r,M2):=by
 obtain⟨xs,e,rfl,rfl,_⟩:=h;rw[pe_call,e,tD];show (P f (xs.map (·.1)) M1).nx=_;rw[hp];rfl
theorem qx{o:BF}(h:PL gl P as σ M ts fa M1)(hp:zG M1 o ts=some r):pe gl P (.blt o as) σ M=.ok (r,M1):=by
 obtain⟨xs,e,rfl,rfl,_⟩:=h;rw[qDg,e,tD];show (tH (zG M1 o (xs.map (·.1)))).bind _=_;rw[hp];rfl
theorem jV(h:PL gl P as σ M ts fa M1)(hl:ts.length<=lim):pe gl P (.lst as) σ M=.ok ((.lst ts,fa),M1):=by
 obtain⟨xs,e,rfl,rfl,hh⟩:=h;rw[pe_lst,e,tD];show (if xs.length<=lim then _ else _)=_;rw[hh,if_pos hl]
theorem ZG(h:PL gl P as σ M ts fa M1)(hl:ts.length<=lim):pe gl P (.tup as) σ M=.ok ((.tup ts,fa),M1):=by
 obtain⟨xs,e,rfl,rfl,hh⟩:=h;rw[pe_tup,e,tD];show (if xs.length<=lim then _ else _)=_;rw[hh,if_pos hl]
theorem zB{it:Itr}{src:List (Option Nat)}{tg:Tg}{cs:Es}{d:jn}(h:pei gl P it σ M=.ok ((us,d),M1))(hc:qI d tg (pec gl P cs) (pe gl P e) us [] true (jq src σ) M1=.ok (r,M2)):pe gl P (.comp it src tg cs e) σ M=.ok (r,M2):=by
 rw[pe_comp,h];exact hc
theorem QG(h:pe gl P a σ M=.ok (bT x,M1)):pe gl P (.not a) σ M=.ok (bT (!x),M1):=by rw[pe_not,h];rfl
theorem Qc{q:PR (TB×Mem)}(h:pe gl P a σ M=.ok (bT x,M1))(hx:x=y)(hq:Cnd y (pe gl P b σ M1) (.ok (bT false,M1)) q):pe gl P (.and a b) σ M=q:=by subst hx;rw[pe_and,h];exact hq.1
theorem O6{q:PR (TB×Mem)}(h:pe gl P a σ M=.ok (bT x,M1))(hx:x=y)(hq:Cnd y (.ok (bT true,M1)) (pe gl P b σ M1) q):pe gl P (.or a b) σ M=q:=by subst hx;rw[pe_or,h];exact hq.1
theorem qDU{q:PR (TB×Mem)}(h:pe gl P c σ M=.ok (bT x,M1))(hx:x=y)(hq:Cnd y (pe gl P a σ M1) (pe gl P b σ M1) q):pe gl P (.ite c a b) σ M=q:=by subst hx;rw[qEf,h];exact hq.1
theorem qFz{n:Nat}{ty:Mt}{r:TB}(h:pe gl P a σ M=.ok ((.cell n,fa),M1))(hs:PL gl P as σ M1 ts fb M2)(hm:ZA ty n ts M2=some (r,M3)):pe gl P (.meth ty a as) σ M=.ok (r,M3):=by
 obtain⟨xs,e,rfl,rfl,_⟩:=hs;rw[qBi,h,tD];show (pes gl P as σ M1).bind _=_;rw[e,tD];show tH (ZA ty n (xs.map (·.1)) M2)=_;rw[hm];rfl
theorem qA6(h:pe gl P a σ M=.ok ((t,fa),M1))(hl:O7 t=some us):pe gl P (.lrng a) σ M=.ok ((.lst us,true),M1):=by
 rw[qCV,h,tD];show (tH (O7 t)).bind _=_;rw[hl];rfl
theorem A6{ks:List String}{n:String}(h:pe gl P a σ M=.ok ((t,fa),M1))(ht:zX M1 t=some n):pe gl P (.isi a ks) σ M=.ok (bT (ks.any (jI n)),M1):=by
 rw[qEz,h,tD];show (tH (zX M1 t)).bind _=_;rw[ht];rfl
theorem zm{d:jn}(h:pe gl P a σ M=.ok ((t,fa),M1))(hs:Zi M1 t=some (us,d)):pei gl P (.list a) σ M=.ok ((us,d),M1):=by
 rw[qAA,h,tD];show (tH (Zi M1 t)).bind _=_;rw[hs];rfl
theorem jm(h:pe gl P a σ M=.ok ((t,fa),M1))(hs:qEr t=some us):pei gl P (.rng1 a) σ M=.ok ((us,[]),M1):=by
 rw[qAN,h,tD];show (tH (qEr t)).bind _=_;rw[hs];rfl
theorem qES{d:jn}(h:pe gl P a σ M=.ok ((t,fa),M1))(hs:ZS M1 t=some (us,d)):pei gl P (.revd a) σ M=.ok ((us.reverse,d),M1):=by
 rw[v3,h,tD];show (tH (ZS M1 t)).bind _=_;rw[hs];rfl
theorem QJ:pxs gl P C .nil σ M=.ok (.nx σ,M):=rfl
theorem F5:∀(t0 rs:Ss) (σ:TS) (M:Mem),pxs gl P C (apS t0 rs) σ M=(pxs gl P C t0 σ M).bind λp=>match p.1 with
  | .nx σ1=>pxs gl P C rs σ1 p.2
  |o=>.ok (o,p.2)
 | .nil,rs,σ,M=>rfl
 | .cons s t,rs,σ,M=>by
  show pxs gl P C (.cons s (apS t rs)) σ M=_;rw[ql,ql];cases px gl P C s σ M with
  |ok p=>
   obtain⟨o,M'⟩:=p;cases o with
   |nx σ1=>exact F5 t rs σ1 M'
   |_=>rfl
  |_=>rfl
def Ifs(gl:List T)(P:Nat->List T->Mem->PR (TB×Mem))(C:List Nat)(y:Bool)(t u r:Ss)(σ:TS)(M:Mem)(q:PR (PO×Mem)):Prop:=(if y=true then pxs gl P C (apS t r) σ M else pxs gl P C (apS u r) σ M)=q/\True
section
variable{s1 s2 s3 s4:S}
theorem t_1(h:pxs gl P C (.cons s1 rs) σ M=q):Ifs gl P C true (.cons s1 .nil) u0 rs σ M q:=⟨h,trivial⟩
theorem t_3(h:pxs gl P C (.cons s1 (.cons s2 (.cons s3 rs))) σ M=q):Ifs gl P C true (.cons s1 (.cons s2 (.cons s3 .nil))) u0 rs σ M q:=⟨h,trivial⟩
theorem f_0(h:pxs gl P C rs σ M=q):Ifs gl P C false t0 .nil rs σ M q:=⟨h,trivial⟩
theorem f_1(h:pxs gl P C (.cons s1 rs) σ M=q):Ifs gl P C false t0 (.cons s1 .nil) rs σ M q:=⟨h,trivial⟩
end
theorem jb(h:pe gl P c σ M=.ok (bT x,M1))(hx:x=y)(hq:Ifs gl P C y t0 u0 rs σ M1 q):pxs gl P C (.cons (.ifs c t0 u0) rs) σ M=q:=by
 subst hx;rw[ql,qDa,h,l6,tD];have hq:=hq.1;rw[F5,F5]at hq;cases x<;>exact hq
theorem qu(hC:(C.contains i||C.contains (i+1000))=false)(h:pe gl P e σ M=.ok ((t,fa),M1))(hs:σ.set i (some t)=σ')(hr:pxs gl P C rs σ' M1=q):pxs gl P C (.cons (.asg (.name i) e) rs) σ M=q:=by
 rw[JK (qFs h hC),hs];exact hr
theorem jX{B:Mem}(hC:C.contains i=true)(h:pe gl P e σ M=.ok ((t,true),M1))(ht:thaw M1.length t=(u,B))(hs:σ.set i (some u)=σ')(hr:pxs gl P C rs σ' (M1++B)=q):pxs gl P C (.cons (.asg (.name i) e) rs) σ M=q:=by
 rw[ql,W5,h,tD];show ((if (C.contains i&&true)=true then PR.ok (.nx (σ.set i (some (thaw M1.length t).1)),M1++(thaw M1.length t).2) else _:PR (PO×Mem)).bind _)=_;rw[hC,if_pos (show (true&&true)=true from rfl),ht,tD,hs];exact hr
theorem y7{o k a:E}{p n z:T}(ha:pe gl P a σ M=.ok ((z,fa),M1))(ho:pe gl P o σ M1=.ok ((p,fb),M2))(hk:pe gl P k σ M2=.ok ((n,fc),M3))(hp:Y8 M3 p n z=some M4)(hr:pxs gl P C rs σ M4=q):pxs gl P C (.cons (.put o k a) rs) σ M=q:=by
 rw[ql,qFK,ha,tD];show ((pe gl P o σ M1).bind _).bind _=_;rw[ho,tD];show ((pe gl P k σ M2).bind _).bind _=_;rw[hk,tD];show ((tH (Y8 M3 p n z)).bind _).bind _=_;rw[hp];exact hr
theorem qDx{n:Nat}(ha:pe gl P a σ M=.ok ((.cell n,fa),M1))(hb:pe gl P b σ M1=.ok ((u,fb),M2))(h:r9 M2 n u=some M3)(hr:pxs gl P C rs σ M3=q):pxs gl P C (.cons (.expr (.app a b)) rs) σ M=q:=by
 rw[JK (qF8 ha hb h)];exact hr
theorem qE2(h:pe gl P e σ M=.ok (r,M1))(hr:pxs gl P C rs σ M1=q):pxs gl P C (.cons (.expr e) rs) σ M=q:=by
 rw[ql,U0,h];exact hr
theorem qDS(h:pe gl P e σ M=.ok (r,M1)):pxs gl P C (.cons (.ret e) rs) σ M=.ok (.rt r,M1):=by
 rw[ql,qEe,h];rfl
theorem qN{r':TB}(h:pe gl P e σ M=.ok (r,M1))(hr:r=r'):pxs gl P C (.cons (.ret e) rs) σ M=.ok (.rt r',M1):=by rw[qDS h,hr]
theorem ZV{it:Itr}{tg:Tg}{d:jn}{σ2:TS}(h:pei gl P it σ M=.ok ((us,d),M1))(hf:zF d tg (pxs gl P C t0) us σ M1=.ok (.nx σ2,M2))(hr:pxs gl P C rs σ2 M2=q):pxs gl P C (.cons (.for_ tg it t0) rs) σ M=q:=by
 rw[ql,qED,h,tD];dsimp only;rw[hf];exact hr
theorem qHC(h:px gl P C s σ M=.ok (.nx σ',M1))(hr:pxs gl P C rs σ' M1=q):pxs gl P C (.cons s rs) σ M=q:=by rw[JK h];exact hr
theorem qFN(h:PL gl P as σ M ts fa M1)(hp:P f ts M1=.ok (r,M2))(hr:pxs gl P C rs σ M2=q):pxs gl P C (.cons (.xexpr f as) rs) σ M=q:=by
 obtain⟨xs,e,rfl,rfl,_⟩:=h;rw[ql,Qe,e,tD];dsimp only;rw[hp];exact hr
theorem qIJ{c:Nat}(h:PL gl P as σ M ts fa M1)(hp:P f ts M1=.exc c M2):pxs gl P C (.cons (.xexpr f as) rs) σ M=.exc c M2:=by
 obtain⟨xs,e,rfl,rfl,_⟩:=h;rw[ql,Qe,e,tD];dsimp only;rw[hp];rfl
theorem qe{tb:List Fn}{Cs:List (List Nat)}{k np ns:Nat}{b:Ss}{vs:List T}{q:PR (PO×Mem)}{z:PR (TB×Mem)}(ht:tb[f]?=some ⟨np,ns,b⟩)(hl:vs.length=np/\np<=ns)(hk:1<=k)(hC:Cs.getD f []=C)(hs:vs.map some++List.replicate (ns-np) none=σ)(h:pxs gl (Pk gl tb Cs (k-1)) C b σ M=q)(hv:QY M.length q=z):Pk gl tb Cs k f vs M=z:=by
 rw[zK ht hl hk,hC,hs,h];exact hv
theorem qFh{n:Nat}{x z:T}(h:M[n]?=some (x::us)):Y8 M (.cell n) (N 0) z=some (M.set n (z::us)):=by
 show ((M[n]?).bind λxs=>(_L.ixN xs.length 0).map λj=>M.set n (xs.set j z))=_;rw[h,Option.bind_some];show ((_L.ixN (us.length+1) 0).map _)=_;unfold _L.ixN;rw[if_pos (by decide),if_pos (by simp)];rfl
theorem qFr{n:Nat}{x y z:T}(h:M[n]?=some (x::y::us)):Y8 M (.cell n) (N 1) z=some (M.set n (x::z::us)):=by
 show ((M[n]?).bind λxs=>(_L.ixN xs.length 1).map λj=>M.set n (xs.set j z))=_;rw[h,Option.bind_some];show ((_L.ixN (us.length+1+1) 1).map _)=_;unfold _L.ixN;rw[if_pos (by decide),if_pos (by simp;omega)];rfl
theorem cN{C:List Nat}{i:Nat}(h:(C.contains i||C.contains (i+1000))=false):(C.contains i||C.contains (i+1000))=false:=h
theorem Je{n:Nat}(h:us[n]?=some t):zr M (.lst us) (N n)=some (t,t.lf):=by rw[Qv,h];rfl
theorem K9{n:Nat}(h:us[n]?=some t):zr M (.tup us) (N n)=some (t,t.lf):=by rw[l0,h];rfl
theorem qGn{n m:Nat}(h0:M[m]?=some us)(h:us[n]?=some t):zr M (.cell m) (N n)=some (t,t.lf):=by rw[qDd,h0,Option.bind_some,h];rfl
end
section
variable{gl:List T}{P:Nat->List T->Mem->PR (TB×Mem)}{C:List Nat}{σ σ':TS}{M M1 M2 M3 M4:Mem}
variable{i f g:Nat}{a b c e:E}{as:Es}{t u v:T}{fa fb fc x y:Bool}{ts us:List T}{r:TB}{s:S}{rs t0 u0:Ss}{q:PR (PO×Mem)}
theorem qF9{d1 d2:jn}{vs:List T}(ha:pe gl P a σ M=.ok ((t,fa),M1))(hb:pe gl P b σ M1=.ok ((u,fb),M2))(h1:ZS M2 t=some (us,d1))(h2:ZS M2 u=some (vs,d2)):pei gl P (.zip a b) σ M=.ok ((List.zipWith (λa b=>T.tup [a,b]) us vs,d1++d2),M2):=by
 rw[qCl,ha,tD];show ((pe gl P b σ M1).bind _)=_;rw[hb,tD];show ((tH (ZS M2 t)).bind _)=_;rw[h1,PR.ofO_some,tD];show ((tH (ZS M2 u)).bind _)=_;rw[h2];rfl
theorem qFY{j k:Nat}{cn:List PySem.Str}(h:PL gl P as σ M ts fa M1)(hp:P f ts M1=.ok (r,M2))(hr:pxs gl P C rs σ M2=q):pxs gl P C (.cons (.tryE (.xexpr f as) j k cn) rs) σ M=q:=by
 obtain⟨xs,e,rfl,rfl,_⟩:=h;rw[ql,X2,Qe,e,tD];dsimp only;rw[hp];exact hr
theorem qF5{j k m:Nat}{cn:List PySem.Str}{n:PySem.Str}(h:PL gl P as σ M ts fa M1)(hp:P f ts M1=.exc m M2)(hc:cn[m]?=some n)(hr:pxs gl P C rs ((σ.set k (some (.ob (.exn n)))).set j none) M2=q):pxs gl P C (.cons (.tryE (.xexpr f as) j k cn) rs) σ M=q:=by
 obtain⟨xs,e,rfl,rfl,_⟩:=h;rw[ql,X2,Qe,e,tD];dsimp only;rw[hp];show (match cn[m]? with|some x=>_|none=>_:PR (PO×Mem)).bind _=_;rw[hc];exact hr
theorem qF7{cn ks:List PySem.Str}{n:PySem.Str}(h:pe gl P a σ M=.ok ((t,fa),M1))(hn:qC7 cn t=some n)(hx:ks.any (G8 n)=x):pe gl P (.isx a cn ks) σ M=.ok (bT x,M1):=by
 rw[qFJ,h,tD];show (tH (qC7 cn t)).bind _=_;rw[hn,<-hx];rfl
theorem qFn(h:pe gl P a σ M=.ok ((t,fa),M1))(hn:qBV t=some r):pe gl P (.neg a) σ M=.ok (r,M1):=by
 rw[qEM,h,tD];show (tH (qBV t)).bind _=_;rw[hn];rfl
end
end _P
namespace Fr
noncomputable def red(t b:Int):Int×Int:=(t / (Int.gcd t b:Int),b / (Int.gcd t b:Int))
structure Low(a:Int×Int):Prop where
 pos:0<a.2
 one:Int.gcd a.1 a.2=1
theorem gpos{t b:Int}(h:0<b):(0:Int)<(Int.gcd t b:Int):=by
 have:0<Int.gcd t b:=Int.gcd_pos_of_ne_zero_right t (by omega);omega
theorem T4(t b:Int):(Int.gcd t b:Int)*(red t b).1=t/\(Int.gcd t b:Int)*(red t b).2=b:=
 ⟨Int.mul_ediv_cancel' (Int.gcd_dvd_left ..),Int.mul_ediv_cancel' (Int.gcd_dvd_right ..)⟩
theorem qCn{t b:Int}(h:0<b):Low (red t b):=by
 have g:=gpos (t:=t) h;obtain⟨e1,e2⟩:=T4 t b;refine⟨?_,?_⟩
 ·refine Int.lt_of_mul_lt_mul_left (a:=(Int.gcd t b:Int)) ?_ (Int.le_of_lt g);rw[e2,Int.mul_zero];exact h
 ·have:Int.gcd t b*Int.gcd (red t b).1 (red t b).2=Int.gcd t b:=by
   have:=Int.gcd_mul_left (Int.gcd t b:Int) (red t b).1 (red t b).2;rw[e1,e2]at this;simpa using this.symm
  have g':0<Int.gcd t b:=by omega
  exact Nat.eq_of_mul_eq_mul_left g' (by rw[this,Nat.mul_one])
theorem Y9{k n m:Int}(h:Int.gcd k m=1)(d:k ∣ n*m):k ∣ n:=by
 have:=Int.dvd_mul_gcd_iff_dvd_mul.mpr d;rw[h]at this;simpa using this
theorem qDL{a b:Int×Int}(ha:Low a)(hb:Low b)(h:a.1*b.2=b.1*a.2):a=b:=by
 have d1:a.2 ∣ b.2:=by
  have:a.2 ∣ a.1*b.2:=⟨b.1,by rw[h,vM]⟩
  rw[vM]at this;exact Y9 (by rw[Int.gcd_comm];exact ha.one) this
 have d2:b.2 ∣ a.2:=by
  have:b.2 ∣ b.1*a.2:=⟨a.1,by rw[<-h,vM]⟩
  rw[vM]at this;exact Y9 (by rw[Int.gcd_comm];exact hb.one) this
 have e:a.2=b.2:=Int.dvd_antisymm (Int.le_of_lt ha.pos) (Int.le_of_lt hb.pos) d1 d2;have e1:a.1=b.1:=by
  rw[e]at h;exact Int.eq_of_mul_eq_mul_right (by have:=hb.pos;omega) h
 exact Prod.ext e1 e
theorem qAv{t b:Int}(h:0<b){a:Int×Int}(ha:Low a)(e:t*a.2=a.1*b):red t b=a:=by
 refine qDL (qCn h) ha ?_;obtain⟨e1,e2⟩:=T4 t b;have g:=gpos (t:=t) h;refine Int.eq_of_mul_eq_mul_left (by omega:(Int.gcd t b:Int)≠0) ?_;rw[<-Int.mul_assoc,e1,e,Int.mul_left_comm,e2]
theorem red_self{a:Int×Int}(h:Low a):red a.1 a.2=a:=qAv h.pos h rfl
noncomputable def add(a b:Int×Int):Int×Int:=red (a.1*b.2+b.1*a.2) (a.2*b.2)
noncomputable def sub(a b:Int×Int):Int×Int:=red (a.1*b.2-b.1*a.2) (a.2*b.2)
noncomputable def mul(a b:Int×Int):Int×Int:=red (a.1*b.1) (a.2*b.2)
theorem add_comm(a b:Int×Int):add a b=add b a:=by unfold add;rw[Int.add_comm,vM a.2]
theorem mul_comm(a b:Int×Int):mul a b=mul b a:=by unfold mul;rw[vM a.1,vM a.2]
theorem bpos{a b:Int×Int}(ha:Low a)(hb:Low b):0<a.2*b.2:=Int.mul_pos ha.pos hb.pos
noncomputable def of(q:Rat):Int×Int:=(q.num,(q.den:Int))
theorem of_low(q:Rat):Low (of q):=⟨by show (0:Int)<(q.den:Int);have:=q.den_pos;omega,q.reduced⟩
theorem red_of{t b:Int}(h:0<b):red t b=of (Rat.divInt t b):=by
 refine qAv h (of_low _) ?_;have e:=Rat.num_divInt_den (Rat.divInt t b);have hd:((Rat.divInt t b).den:Int)≠0:=by have:=(Rat.divInt t b).den_pos;omega
 have:=(Rat.divInt_eq_divInt_iff hd (by omega:b≠0)).mp e;show t*((Rat.divInt t b).den:Int)=(Rat.divInt t b).num*b;exact this.symm
theorem dz(q:Rat):(q.den:Int)≠0:=by have:=q.den_pos;omega
theorem dp(q:Rat):(0:Int)<(q.den:Int):=by have:=q.den_pos;omega
theorem add_of(a b:Rat):add (of a) (of b)=of (a+b):=by
 unfold add;show red (a.num*b.den+b.num*a.den) (a.den*b.den)=_;rw[red_of (Int.mul_pos (dp a) (dp b))];congr 1;show Rat.divInt (a.num*b.den+b.num*a.den) (a.den*b.den)=_;rw[<-Rat.divInt_add_divInt _ _ (dz a) (dz b),Rat.num_divInt_den,Rat.num_divInt_den]
theorem sub_of(a b:Rat):sub (of a) (of b)=of (a-b):=by
 unfold sub;show red (a.num*b.den-b.num*a.den) (a.den*b.den)=_;rw[red_of (Int.mul_pos (dp a) (dp b))];congr 1;show Rat.divInt (a.num*b.den-b.num*a.den) (a.den*b.den)=_;rw[<-Rat.divInt_sub_divInt _ _ (dz a) (dz b),Rat.num_divInt_den,Rat.num_divInt_den]
theorem mul_of(a b:Rat):mul (of a) (of b)=of (a*b):=by
 unfold mul;show red (a.num*b.num) (a.den*b.den)=_;rw[red_of (Int.mul_pos (dp a) (dp b))];congr 1;show Rat.divInt (a.num*b.num) (a.den*b.den)=_;rw[<-Rat.divInt_mul_divInt,Rat.num_divInt_den,Rat.num_divInt_den]
theorem of_inj{a b:Rat}:of a=of b↔a=b:=by
 constructor
 ·intro h;have h1:a.num=b.num:=congrArg Prod.fst h;have h2:(a.den:Int)=(b.den:Int):=congrArg Prod.snd h;rw[<-Rat.num_divInt_den a,<-Rat.num_divInt_den b,h1,h2]
 ·rintro rfl;rfl
theorem of_neg(a:Rat):of (-a)=(0-a.num,(a.den:Int)):=by
 unfold of;simp
noncomputable def wor(p q:Rat):Rat:=p+q-p*q
noncomputable def sh:Nat->(Nat->Rat)->Nat->Rat
 | 0,f,P=>f P
 |s+1,f,P=>if P<2 ^ s then sh s (λt=>wor (f t) (f (2 ^ s+t))) P else sh s (λt=>f t*f (2 ^ s+t)) (P-2 ^ s)
def U(q:Rat):Prop:=0<=q/\q<=1
theorem mul_U{p q:Rat}(hp:U p)(hq:U q):U (p*q):=by
 obtain⟨a,b⟩:=hp;obtain⟨c,d⟩:=hq;refine⟨Rat.mul_nonneg a c,?_⟩;have:=Rat.mul_le_mul_of_nonneg_left d a
 grind
theorem wor_U{p q:Rat}(hp:U p)(hq:U q):U (wor p q):=by
 obtain⟨a,b⟩:=hp;obtain⟨c,d⟩:=hq;have h1:0<=(1-p)*(1-q):=Rat.mul_nonneg (by grind) (by grind);have h2:0<=p*(1-q):=Rat.mul_nonneg a (by grind);unfold wor;constructor<;>grind
theorem p2(s:Nat):2 ^ (s+1)=2 ^ s+2 ^ s:=by rw[uB];omega
theorem sh_U:∀(s:Nat) (f:Nat->Rat) (P:Nat),(∀t,t<2 ^ s->U (f t))->P<2 ^ s->U (sh s f P)
 | 0,f,P,h,hP=>h P hP
 |s+1,f,P,h,hP=>by
  have:=p2 s;unfold sh;split
  ·exact sh_U s _ P (λt ht=>wor_U (h t (by omega)) (h _ (by omega))) (by omega)
  ·exact sh_U s _ _ (λt ht=>mul_U (h t (by omega)) (h _ (by omega))) (by omega)
theorem sh_list(s:Nat)(f:Nat->Rat):(List.range (2 ^ (s+1))).map (sh (s+1) f)=(List.range (2 ^ s)).map (sh s λt=>wor (f t) (f (2 ^ s+t)))++(List.range (2 ^ s)).map (sh s λt=>f t*f (2 ^ s+t)):=by
 rw[p2,List.range_add,wy,wx];congr 1
 ·exact vX λt ht=>by rw[sh,if_pos (wY.mp ht)]
 ·exact vX λt ht=>by show sh (s+1) f (2 ^ s+t)=_;rw[sh,if_neg (by omega),ve]
def Dv(q:Rat)(B:Nat):Prop:=∃z:Int,q*(B:Rat)=(z:Rat)
theorem Dv.add{a b:Rat}{B:Nat}(x:Dv a B)(y:Dv b B):Dv (a+b) B:=by
 obtain⟨z,e⟩:=x;obtain⟨w,e'⟩:=y;exact⟨z+w,by rw[Rat.intCast_add,<-e,<-e'];grind⟩
theorem Dv.sub{a b:Rat}{B:Nat}(x:Dv a B)(y:Dv b B):Dv (a-b) B:=by
 obtain⟨z,e⟩:=x;obtain⟨w,e'⟩:=y;exact⟨z-w,by rw[Rat.intCast_sub,<-e,<-e'];grind⟩
theorem Dv.mul{a b:Rat}{A B:Nat}(x:Dv a A)(y:Dv b B):Dv (a*b) (A*B):=by
 obtain⟨z,e⟩:=x;obtain⟨w,e'⟩:=y;exact⟨z*w,by rw[Rat.intCast_mul,<-e,<-e',Rat.natCast_mul];grind⟩
theorem Dv.up{a:Rat}{A:Nat}(x:Dv a A)(B:Nat):Dv a (A*B):=by
 obtain⟨z,e⟩:=x;exact⟨z*B,by rw[Rat.intCast_mul,<-e,Rat.natCast_mul,Rat.intCast_natCast];grind⟩
theorem Dv.up'{a:Rat}{A:Nat}(x:Dv a A)(B:Nat):Dv a (B*A):=by rw[Nat.mul_comm];exact x.up B
theorem Dv.wor{p q:Rat}{A B:Nat}(x:Dv p A)(y:Dv q B):Dv (wor p q) (A*B):=((x.up B).add (y.up' A)).sub (x.mul y)
theorem qDj(q:Rat):(q.den:Rat)≠0:=by
 have h:=q.den_nz
 exact_mod_cast h
theorem Y3(q:Rat):q*(q.den:Rat)=(q.num:Rat):=by
 have e:=Rat.num_divInt_den q;rw[Rat.divInt_eq_div,Rat.intCast_natCast]at e;have h:=qDj q
 grind
theorem dv_self(q:Rat):Dv q q.den:=⟨q.num,Y3 q⟩
theorem dv_le{q:Rat}{B:Nat}(h:Dv q B)(hB:0<B):q.den<=B:=by
 obtain⟨z,e⟩:=h;have e1:(q.num:Rat)*(B:Rat)=(z:Rat)*(q.den:Rat):=by
  rw[<-Y3 q,<-e];grind
 have e2:q.num*(B:Int)=z*(q.den:Int):=by
  have:((q.num*(B:Int):Int):Rat)=((z*(q.den:Int):Int):Rat):=by
   rw[Rat.intCast_mul,Rat.intCast_mul,Rat.intCast_natCast,Rat.intCast_natCast];exact e1
  exact Rat.intCast_inj.mp this
 have d:(q.den:Int) ∣ q.num*(B:Int):=⟨z,by rw[e2,vM]⟩
 have d2:(q.den:Int) ∣ (B:Int):=Y9 (n:=(B:Int)) (m:=q.num) (by rw[Int.gcd_comm];exact(of_low q).one) (by rw[vM];exact d);exact Nat.le_of_dvd hB (Int.natCast_dvd_natCast.mp d2)
theorem num_le{q:Rat}(h:U q):0<=q.num/\q.num<=(q.den:Int):=by
 obtain⟨a,b⟩:=h;rw[Rat.le_iff]at a b;simp at a b;exact⟨by simpa using a,by simpa using b⟩
noncomputable def pr:Nat->(Nat->Nat)->Nat
 | 0,b=>b 0
 |s+1,b=>pr s λt=>b t*b (2 ^ s+t)
theorem pr_pos:∀(s:Nat) (b:Nat->Nat),(∀t,t<2 ^ s->0<b t)->0<pr s b
 | 0,b,h=>h 0 (by decide)
 |s+1,b,h=>by have:=p2 s;exact pr_pos s _ λt ht=>uC (h t (by omega)) (h _ (by omega))
theorem le_pr:∀(s:Nat) (b:Nat->Nat),(∀t,t<2 ^ s->0<b t)->∀t,t<2 ^ s->b t<=pr s b
 | 0,b,h,t,ht=>by rw[show t=0 by omega];exact wF _
 |s+1,b,h,t,ht=>by
  have:=p2 s;have h':∀t,t<2 ^ s->0<b t*b (2 ^ s+t):=λt ht=>uC (h t (by omega)) (h _ (by omega));unfold pr;by_cases q:t<2 ^ s
  ·exact wG (Nat.le_mul_of_pos_right _ (h _ (by omega))) (le_pr s _ h' t q)
  ·have:=le_pr s _ h' (t-2 ^ s) (by omega);rw[show 2 ^ s+(t-2 ^ s)=t by omega]at this;exact wG (Nat.le_mul_of_pos_left _ (h _ (by omega))) this
theorem pr_le:∀(s c:Nat) (b:Nat->Nat),(∀t,t<2 ^ s->b t<=c)->pr s b<=c ^ 2 ^ s
 | 0,c,b,h=>by show b 0<=c ^ 2 ^ 0;simpa using h 0 (by decide)
 |s+1,c,b,h=>by
  have:=p2 s;have:=pr_le s (c*c) (λt=>b t*b (2 ^ s+t)) λt ht=>Nat.mul_le_mul (h t (by omega)) (h _ (by omega));rw[p2,Nat.pow_add,<-Nat.mul_pow];exact this
theorem sh_dv:∀(s:Nat) (f:Nat->Rat) (b:Nat->Nat) (P:Nat),(∀t,t<2 ^ s->Dv (f t) (b t))->P<2 ^ s->Dv (sh s f P) (pr s b)
 | 0,f,b,P,h,hP=>by rw[show P=0 by omega];exact h 0 (by decide)
 |s+1,f,b,P,h,hP=>by
  have:=p2 s;unfold sh pr;split
  ·exact sh_dv s _ _ P (λt ht=>(h t (by omega)).wor (h _ (by omega))) (by omega)
  ·exact sh_dv s _ _ _ (λt ht=>(h t (by omega)).mul (h _ (by omega))) (by omega)
theorem div_U{t b:Nat}(h:t<=b)(hb:0<b):U (Rat.divInt t b)/\Dv (Rat.divInt (t:Int) (b:Int)) b:=by
 have hz:(b:Rat)≠0:=by
  have:b≠0:=by omega
  exact_mod_cast this
 have e:Rat.divInt (t:Int) (b:Int)*(b:Rat)=(t:Rat):=by
  rw[Rat.divInt_eq_div,Rat.intCast_natCast,Rat.intCast_natCast];exact Rat.div_mul_cancel hz
 refine⟨⟨?_,?_⟩,(t:Int),by rw[e,Rat.intCast_natCast]⟩
 ·exact Rat.divInt_nonneg (by omega) (by omega)
 ·have hp:(0:Rat)<(b:Rat):=by exact_mod_cast hb
  have hl:(t:Rat)<=(b:Rat):=by exact_mod_cast h
  refine Rat.le_of_mul_le_mul_right (c:=(b:Rat)) ?_ hp;rw[e]
  grind
noncomputable def b1(b:Bool):Rat:=if b then 1 else 0
noncomputable def ch(f:Nat->Rat)(x:Nat):Nat->Rat:=λt=>if x.testBit t then f t else 1-f t
noncomputable def top(f:Nat->Rat)(x:Nat):Nat->Int:=λt=>if x.testBit t then (f t).num else (f t).den-(f t).num
noncomputable def rup(f:Nat->Rat)(i:Nat)(x:Rat):Nat->Rat:=λt=>if t=i then x else f t
noncomputable def rdr:List (Nat×Rat)->(Nat->Rat)->Nat->Rat
 | [],f=>f
 |p::r,f=>rdr r (rup f p.1 (f p.1*p.2))
structure Bd(n c:Nat)(f:Nat->Rat)(e:Nat->Nat):Prop where
 u:∀t,t<n->U (f t)
 d:∀t,t<n->(f t).den<=c ^ e t
theorem Bd.step{n c i:Nat}{f:Nat->Rat}{e:Nat->Nat}{q:Rat}(h:Bd n c f e)(hi:i<n)(hq:U q)(dq:q.den<=c):Bd n c (rup f i (f i*q)) (λt=>if t=i then e t+1 else e t):=by
 refine⟨λt ht=>?_,λt ht=>?_⟩
 ·unfold rup;split
  ·exact mul_U (h.u i hi) hq
  ·exact h.u t ht
 ·unfold rup;split
  ·rename_i z;subst z;refine wG (dv_le ((dv_self (f t)).mul (dv_self q)) (uC (f t).den_pos q.den_pos)) ?_;rw[uB];exact Nat.mul_le_mul (h.d t ht) dq
  ·exact h.d t ht
theorem Bd.den{n c m:Nat}{f:Nat->Rat}{e:Nat->Nat}(h:Bd n c f e)(hc:1<=c){t:Nat}(ht:t<n)(he:e t<=m):(f t).den<=c ^ m:=
 wG (h.d t ht) (wq hc he)
theorem Bd.run{n c m:Nat}:∀(P:List (Nat×Rat)) (f:Nat->Rat) (e:Nat->Nat),Bd n c f e->(∀t,e t+(P.map (·.1)).count t<=m)->(∀p∈P,p.1<n/\U p.2/\p.2.den<=c)->∃e',Bd n c (rdr P f) e'/\∀t,e' t<=m
 | [],f,e,h,he,_=>⟨e,h,λt=>by simpa using he t⟩
 |p::P,f,e,h,he,hp=>by
  obtain⟨a,b,c⟩:=hp p (by simp);refine Bd.run P _ _ (h.step a b c) (λt=>?_) λq hq=>hp q (by simp[hq]);have:=he t;rw[List.map_cons,List.count_cons]at this;by_cases z:t=p.1
  ·rw[if_pos z];simp[z]at this ⊢;omega
  ·rw[if_neg z];simp[Ne.symm z]at this;omega
end Fr
namespace _B
open Fr
noncomputable def rs(w:Nat->Rat):List Nat->Rat
 | []=>0
 |p::l=>w p+rs w l
noncomputable def qk(w:Nat->Rat)(i j:Nat):Bool:=if w i=w j then decide (j<i) else decide (w i<w j)
theorem QB(w:Nat->Rat)(i:Nat):qk w i i=false:=by simp[qk]
theorem jk{w:Nat->Rat}{a b c:Nat}(h:qk w a b=true)(g:qk w b c=true):qk w a c=true:=by
 unfold qk at *;split at h<;>split at g<;>split<;>simp only[uH]at *<;>grind
theorem Jg{P Q:Nat->Bool}:∀l:List Nat,(∀x∈l,P x=true->Q x=true)->(l.filter P).length<=(l.filter Q).length
 | [],_=>by simp
 |x::l,h=>by
  have ih:=Jg l λy hy=>h y (by simp[hy]);have hx:=h x (by simp);cases hP:P x<;>cases hQ:Q x<;>simp[List.filter_cons,hP,hQ]<;>first|omega|(rw[hP,hQ]at hx;simp at hx)
theorem ZJ{P Q:Nat->Bool}{z:Nat}(hz:P z=false)(hz':Q z=true):∀l:List Nat,z∈l->(∀x∈l,P x=true->Q x=true)->(l.filter P).length<(l.filter Q).length
 | [],h,_=>by simp at h
 |x::l,hm,h=>by
  have hx:=h x (by simp);by_cases e:z=x
  ·subst e;have:=Jg l λy hy=>h y (by simp[hy]);simp[List.filter_cons,hz,hz'];omega
  ·have ih:=ZJ hz hz' l (by simpa [e] using hm) λy hy=>h y (by simp[hy]);cases hP:P x<;>cases hQ:Q x<;>simp[List.filter_cons,hP,hQ]<;>first|omega|(rw[hP,hQ]at hx;simp at hx)
noncomputable def rank(w:Nat->Rat)(n p:Nat):Nat:=((List.range n).filter λi=>qk w i p).length
noncomputable def best(w:Nat->Rat)(n m:Nat):List Nat:=(List.range n).filter λp=>decide (rank w n p<m)
noncomputable def h1(b:Bool)(y:Rat):Rat:=if b then y*y else wor y y
noncomputable def bits:Nat->Nat->List Bool
 | 0,_=>[]
 |s+1,P=>if P<2 ^ s then false::bits s P else true::bits s (P-2 ^ s)
noncomputable def pick(w:Nat->Rat)(r:Nat)(M:List Nat):Nat:=M.foldl (λb p=>if w p<w b then p else b) r
theorem g7(w:Nat->Rat):∀(M:List Nat) (r:Nat) (D:List Nat),r∈D->(∀x∈D,x=r\/qk w r x=true)->(∀x∈D,∀y∈M,y<=x)->M.Pairwise (·>·) ->
  (pick w r M∈D\/pick w r M∈M)/\∀x,x∈D\/x∈M->x=pick w r M\/qk w (pick w r M) x=true
 | [],r,D,hr,hD,_,_=>⟨.inl hr,λx hx=>hD x (by simpa using hx)⟩
 |p::M,r,D,hr,hD,hle,hpw=>by
  obtain⟨q1,q2⟩:=vJ.mp hpw;have key:∃r',(if w p<w r then p else r)=r'/\r'∈p::D/\∀x∈p::D,x=r'\/qk w r' x=true:=by
   by_cases h:w p<w r
   ·refine⟨p,if_pos h,by simp,λx hx=>?_⟩;rcases wL.mp hx with rfl|hx
    ·exact .inl rfl
    ·have pr:qk w p r=true:=by unfold qk;rw[if_neg (by grind)];exact uG h
     rcases hD x hx with rfl|e
     ·exact .inr pr
     ·exact .inr (jk pr e)
   ·refine⟨r,if_neg h,by simp[hr],λx hx=>?_⟩;rcases wL.mp hx with rfl|hx
    ·by_cases e:x=r
     ·exact .inl e
     ·refine .inr ?_;have:=hle r hr x (by simp);unfold qk;split
      ·exact uG (by omega)
      ·exact uG (by grind)
    ·exact hD x hx
  obtain⟨r',e1,e2,e3⟩:=key;have ih:=g7 w M r' (p::D) e2 e3 (λx hx y hy=>by
   rcases wL.mp hx with rfl|hx
   ·exact vF (q1 y hy)
   ·exact hle x hx y (by simp[hy])) q2
  have e4:pick w r (p::M)=pick w r' M:=by unfold pick;rw[List.foldl_cons,e1]
  rw[e4];refine⟨?_,λx hx=>ih.2 x ?_⟩
  ·rcases ih.1 with z|z
   ·rcases wL.mp z with z|z
    ·exact .inr (by rw[z];simp)
    ·exact .inl z
   ·exact .inr (by simp[z])
  ·rcases hx with z|z
   ·exact .inl (by simp[z])
   ·rcases wL.mp z with rfl|z
    ·exact .inl (by simp)
    ·exact .inr z
theorem pick_list(w:Nat->Rat){L:List Nat}(hL:L.Pairwise (·<·)){l:Nat}(hl:L.getLast?=some l):pick w l L.reverse∈L/\∀x∈L,x=pick w l L.reverse\/qk w (pick w l L.reverse) x=true:=by
 have ml:l∈L:=List.mem_of_getLast? hl;have top:∀y∈L,y<=l:=λy hy=>by
  obtain⟨ini,rfl⟩:=List.getLast?_eq_some_iff.mp hl;rcases wJ.mp hy with z|z
  ·exact vF ((List.pairwise_append.mp hL).2.2 y z l (by simp))
  ·simp at z;omega
 obtain⟨a,b⟩:=g7 w L.reverse l [l] (by simp) (λx hx=>.inl (by simpa using hx)) (λx hx y hy=>by
  have:x=l:=by simpa using hx
  rw[this];exact top y (by simpa using hy)) (List.pairwise_reverse.mpr hL)
 refine⟨?_,λx hx=>b x (.inr (by simpa using hx))⟩;rcases a with z|z
 ·have:pick w l L.reverse=l:=by simpa using z
  rw[this];exact ml
 ·simpa using z
structure Sel(w:Nat->Rat)(n:Nat)(F L:List Nat):Prop where
 perm:(F++L).Perm (List.range n)
 up:L.Pairwise (·<·)
 ah:∀f∈F,∀l∈L,qk w f l=true
theorem Sel.nd{w:Nat->Rat}{n:Nat}{F L:List Nat}(S:Sel w n F L):(F++L).Nodup:=S.perm.nodup_iff.mpr List.nodup_range
theorem Sel.start(w:Nat->Rat)(n:Nat):Sel w n [] (List.range n):=⟨.refl _,vm,λf h=>by simp at h⟩
theorem Sel.step{w:Nat->Rat}{n r:Nat}{F L:List Nat}(S:Sel w n F L)(hr:r∈L)(ha:∀x∈L,x=r\/qk w r x=true):Sel w n (F++[r]) (L.erase r):=by
 refine⟨?_,S.up.sublist List.erase_sublist,λf hf l hl=>?_⟩
 ·rw[wV];exact((List.perm_cons_erase hr).symm.append_left F).trans S.perm
 ·have hl':=List.mem_of_mem_erase hl;rcases wJ.mp hf with z|z
  ·exact S.ah f z l hl'
  ·have:f=r:=by simpa using z
   subst this;rcases ha l hl' with e|e
   ·subst e;have nd:L.Nodup:=(wp.mp S.nd).2.1;exact absurd hl (by rw[List.Nodup.mem_erase_iff nd];simp)
   ·exact e
theorem Sel.rank_{w:Nat->Rat}{n p:Nat}{F L:List Nat}(S:Sel w n F L)(hp:p<n):_B.rank w n p<F.length↔p∈F:=by
 have e:_B.rank w n p=((F++L).filter λi=>qk w i p).length:=(S.perm.symm.filter _).length_eq;rw[e,vZ,wT];have hm:p∈F++L:=S.perm.mem_iff.mpr (wY.mpr hp);constructor
 ·intro h;rcases wJ.mp hm with z|z
  ·exact z
  ·have:F.filter (λi=>qk w i p)=F:=vE.mpr λf hf=>S.ah f hf p z;rw[this]at h;omega
 ·intro h;have e2:L.filter (λi=>qk w i p)=[]:=vS.mpr λl hl q=>by
   have:=jk (S.ah p h l hl) q;rw[QB]at this;cases this
  rw[e2,vz,Nat.add_zero];have:=ZJ (P:=λi=>qk w i p) (Q:=λ_=>true) (z:=p) (QB w p) rfl F h λ_ _ _=>rfl
  rwa [vE.mpr λ_ _=>rfl]at this
theorem Sel.best_{w:Nat->Rat}{n:Nat}{F L:List Nat}(S:Sel w n F L):_B.best w n F.length=(List.range n).filter λp=>decide (p∈F):=by
 unfold _B.best;exact List.filter_congr λp hp=>by rw[decide_eq_decide];exact S.rank_ (wY.mp hp)
theorem Sel.sorted{w:Nat->Rat}{n:Nat}{F L:List Nat}(S:Sel w n F L):_P.isort (F.map λ(x:Nat)=>(x:Int))=(_B.best w n F.length).map λ(x:Nat)=>(x:Int):=by
 have nd:=S.nd;have dis:=(wp.mp nd).2.2;rw[S.best_];refine _P.sort_one (_P.isort_le _) ?_ ((_P.isort_perm _).trans ?_)
 ·rw[vk];exact(vm.filter _).imp λh=>by omega
 ·refine List.Perm.map _ ?_;have h:=S.perm.filter λp=>decide (p∈F);rw[vZ,vE.mpr (λa ha=>uG ha),vS.mpr (λa ha q=>dis a (uI q) a ha rfl),wO]at h;exact h
noncomputable def ZQ(w:Nat->Rat)(P:List Nat)(p:Nat):Nat:=(P.filter λi=>qk w i p).length
noncomputable def jU(w:Nat->Rat)(P:List Nat)(m:Nat):List Nat:=P.filter λp=>decide (ZQ w P p<m)
structure SelP(w:Nat->Rat)(P F L:List Nat):Prop where
 perm:(F++L).Perm P
 up:L.Pairwise (·<·)
 ah:∀f∈F,∀l∈L,qk w f l=true
theorem SelP.nd{w:Nat->Rat}{P F L:List Nat}(hP:P.Nodup)(S:SelP w P F L):(F++L).Nodup:=S.perm.nodup_iff.mpr hP
theorem SelP.start{w:Nat->Rat}{P:List Nat}(hP:P.Pairwise (·<·)):SelP w P [] P:=⟨.refl _,hP,λf h=>by simp at h⟩
theorem SelP.step{w:Nat->Rat}{r:Nat}{P F L:List Nat}(hP:P.Nodup)(S:SelP w P F L)(hr:r∈L)(ha:∀x∈L,x=r\/qk w r x=true):SelP w P (F++[r]) (L.filter λx=>!decide (x=r)):=by
 have nd:L.Nodup:=(wp.mp (S.nd hP)).2.1;have e:(L.filter λx=>!decide (x=r))=L.erase r:=by
  rw[nd.erase_eq_filter];exact List.filter_congr λx _=>by by_cases h:x=r<;>simp[h]
 refine⟨?_,S.up.filter _,λf hf l hl=>?_⟩
 ·rw[e,wV];exact((List.perm_cons_erase hr).symm.append_left F).trans S.perm
 ·obtain⟨hl',hn⟩:=vC.mp hl;rcases wJ.mp hf with z|z
  ·exact S.ah f z l hl'
  ·have:f=r:=by simpa using z
   subst this;rcases ha l hl' with e|e
   ·subst e;simp at hn
   ·exact e
theorem SelP.rank_{w:Nat->Rat}{p:Nat}{P F L:List Nat}(S:SelP w P F L)(hp:p∈P):ZQ w P p<F.length↔p∈F:=by
 have e:ZQ w P p=((F++L).filter λi=>qk w i p).length:=(S.perm.symm.filter _).length_eq;rw[e,vZ,wT];have hm:p∈F++L:=S.perm.mem_iff.mpr hp;constructor
 ·intro h;rcases wJ.mp hm with z|z
  ·exact z
  ·have:F.filter (λi=>qk w i p)=F:=vE.mpr λf hf=>S.ah f hf p z;rw[this]at h;omega
 ·intro h;have e2:L.filter (λi=>qk w i p)=[]:=vS.mpr λl hl q=>by
   have:=jk (S.ah p h l hl) q;rw[QB]at this;cases this
  rw[e2,vz,Nat.add_zero];have:=ZJ (P:=λi=>qk w i p) (Q:=λ_=>true) (z:=p) (QB w p) rfl F h λ_ _ _=>rfl
  rwa [vE.mpr λ_ _=>rfl]at this
theorem SelP.sorted{w:Nat->Rat}{P F L:List Nat}(hP:P.Pairwise (·<·))(S:SelP w P F L):_P.isort (F.map λ(x:Nat)=>(x:Int))=(jU w P F.length).map λ(x:Nat)=>(x:Int):=by
 have nd:=S.nd (hP.imp λh=>wX h);have dis:=(wp.mp nd).2.2;have b:jU w P F.length=P.filter λp=>decide (p∈F):=List.filter_congr λp hp=>by rw[decide_eq_decide];exact S.rank_ hp
 rw[b];refine _P.sort_one (_P.isort_le _) ?_ ((_P.isort_perm _).trans ?_)
 ·rw[vk];exact(hP.filter _).imp λh=>by omega
 ·refine List.Perm.map _ ?_;have h:=S.perm.filter λp=>decide (p∈F);rw[vZ,vE.mpr (λa ha=>uG ha),vS.mpr (λa ha q=>dis a (uI q) a ha rfl),wO]at h;exact h
end _B
namespace _M
open PySem PySem.Spec PyProof.Rows _L _P
noncomputable def top(i:Nat):Stmt:=PySem.Challenge.pw_healhalves_k73_roads_of_plans.main.body.getD i (.Pass ⟨0,0,0,0⟩)
noncomputable def Tb:Tbl:=⟨[⟨"is_whole",top 8,["thing"],["thing"]⟩,
 ⟨"is_number_below",top 9,["thing","end"],["thing","end"]⟩,
 ⟨"is_list_below",top 10,["thing","end"],["thing","end"]⟩,
 ⟨"is_rising",top 11,["thing","end"],["thing","end","least","number"]⟩,
 ⟨"length_of",top 12,["size"],["size"]⟩,
 ⟨"is_word_length",top 13,["number"],["number"]⟩,
 ⟨"is_size",top 14,["thing"],["thing"]⟩,
 ⟨"is_fraction",top 17,["thing"],["thing"]⟩,
 ⟨"is_share",top 18,["thing"],["thing"]⟩,
 ⟨"fraction",top 19,["top","bottom"],["top","bottom","divisor"]⟩,
 ⟨"greatest_divisor",top 20,["one","other"],["one","other","rest"]⟩,
 ⟨"plus",top 21,["one","other"],["one","other"]⟩,
 ⟨"minus",top 22,["one","other"],["one","other"]⟩,
 ⟨"times",top 23,["one","other"],["one","other"]⟩,
 ⟨"is_less",top 24,["one","other"],["one","other"]⟩,
 ⟨"check_road",top 26,["road"],["road"]⟩,
 ⟨"is_road",top 27,["thing"],["thing"]⟩,
 ⟨"are_shares",top 28,["thing","many"],["thing","many"]⟩,
 ⟨"halves_along",top 29,["row"],["row","half","worse","better"]⟩,
 ⟨"either_lost",top 30,["one","other"],["one","other"]⟩,
 ⟨"shares_of",top 31,["road"],["road"]⟩,
 ⟨"shares_along",top 32,["row"],["row","halves"]⟩,
 ⟨"best_places",top 34,["road","many"],["road","many"]⟩,
 ⟨"check_many",top 35,["many","most"],["many","most"]⟩,
 ⟨"best_among",top 36,["shares","places","many"],["shares","places","many"]⟩,
 ⟨"many_ahead",top 37,["shares","places","place"],["shares","places","place"]⟩,
 ⟨"is_ahead",top 38,["shares","one","other"],["shares","one","other"]⟩,
 ⟨"is_reached",top 40,["place","spot"],["place","spot"]⟩,
 ⟨"is_plan",top 43,["thing"],["thing","length"]⟩,
 ⟨"is_known_rightly",top 44,["sendings","known","spot"],["sendings","known","spot","reaching"]⟩,
 ⟨"check_plan",top 45,["plan"],["plan"]⟩,
 ⟨"sent_spots",top 46,["plan"],["plan","spots","number"]⟩,
 ⟨"road_by",top 47,["plan","shares"],["plan","shares","spots","spot","road","share"]⟩,
 ⟨"shares_by",top 48,["plan","shares"],["plan","shares"]⟩,
 ⟨"best_by",top 49,["plan","shares","many"],["plan","shares","many","road","places"]⟩,
 ⟨"_law_bag",top 51,["_law_script","_law_k"],["_law_script","_law_k","_law_cell","_law_great"]⟩,
 ⟨"_law_out",top 52,["_law_bag_here","_law_many"],["_law_bag_here","_law_many","_law_found"]⟩,
 ⟨"_law_whole",top 53,["_law_thing"],["_law_thing"]⟩,
 ⟨"_law_low",top 54,["_law_top","_law_bottom"],["_law_top","_law_bottom","_law_one","_law_other"]⟩,
 ⟨"_law_add",top 55,["_law_one","_law_other"],["_law_one","_law_other"]⟩,
 ⟨"_law_mul",top 56,["_law_one","_law_other"],["_law_one","_law_other"]⟩,
 ⟨"_law_is_low",top 57,["_law_found"],["_law_found"]⟩,
 ⟨"_law_wide",top 58,["_law_bag_here","_law_many"],["_law_bag_here","_law_many"]⟩,
 ⟨"_law_share",top 59,["_law_bag_here","_law_most"],["_law_bag_here","_law_most","_law_way","_law_bottom"]⟩,
 ⟨"_law_plan",top 60,["_law_bag_here"],["_law_bag_here","_law_size","_law_many","_law_way","_law_start","_law_known","_law_most"]⟩,
 ⟨"_law_spots",top 61,["_law_plan_here"],["_law_plan_here","_law_found","_law_turn"]⟩,
 ⟨"_law_halved",top 62,["_law_road"],["_law_road","_law_half","_law_worse","_law_better","_law_t","_law_both"]⟩,
 ⟨"_law_under",top 63,["_law_one","_law_other"],["_law_one","_law_other"]⟩,
 ⟨"_law_best",top 64,["_law_some","_law_left","_law_many"],["_law_some","_law_left","_law_many","_law_found","_law_turn","_law_best_here","_law_place"]⟩,
 ⟨"_law_taken",top 65,["_law_road","_law_good"],["_law_road","_law_good","_law_kept","e"]⟩,
 ⟨"_law_right",top 66,["_law_plan_here","_law_shares","_law_many"],["_law_plan_here","_law_shares","_law_many","_law_road","_law_spots_here","_law_k","_law_some","_law_handed","_law_turn","_law_found","_law_halved_here","_law_left","_law_best_here"]⟩,
 ⟨"law",top 67,["_law_script"],["_law_script","_law_k","_law_bag_here","_law_plan_here","_law_shares"]⟩],
 [("LENGTHS",E.glob 0),("GREATEST_SIZE",E.cst (.int 5)),("GREATEST_IN_SHARE",E.cst (.int 999999999999)),("MOST_SENDINGS",E.cst (.int 6))],
 ["len","sum","all","max","min","abs","list","int","tuple","range","zip","isinstance","bool","sorted","reversed","enumerate","ValueError"],["HealError","NoNumber","NoRoad","NoPlan"],[]⟩
noncomputable def gs:List O:=[O.tup [V.int 1,V.int 2,V.int 4,V.int 8,V.int 16,V.int 32]]
end _M
namespace _M
open PySem PySem.Spec _P
open _L (V)
noncomputable def cnL:List Str:=["HealError","NoNumber","NoRoad","NoPlan"]
noncomputable def b0:Ss:=(.cons (.ret (.and (.isi (.var 0) ["int"]) (.not (.isi (.var 0) ["bool"])))) .nil)
theorem t0:Tb.fns[0]?=some ⟨1,1,b0⟩:=by kernel_rfl
noncomputable def b1:Ss:=(.cons (.ret (.and (.call 0 (.cons (.var 0) .nil)) (.cmp2 .le .lt (nE 0) (.var 0) (.var 1)))) .nil)
theorem t1:Tb.fns[1]?=some ⟨2,2,b1⟩:=by kernel_rfl
noncomputable def b2:Ss:=(.cons (.ret (.and (.isi (.var 0) ["list"]) (.blt .all (.cons (.comp (.list (.var 0)) [none,some 1] (.name 0) .nil (.call 1 (.cons (.var 0) (.cons (.var 1) .nil)))) .nil)))) .nil)
theorem t2:Tb.fns[2]?=some ⟨2,2,b2⟩:=by kernel_rfl
noncomputable def qFX:Ss:=(.cons (.ifs (.or (.not (.call 1 (.cons (.var 3) (.cons (.var 1) .nil)))) (.cmp .lt (.var 3) (.var 2))) (.cons (.ret (.cst (V.bl false))) .nil) .nil) (.cons (.asg (.name 2) (.bin .add (.var 3) (nE 1))) .nil))
noncomputable def b3:Ss:=(.cons (.ifs (.not (.isi (.var 0) ["list"])) (.cons (.ret (.cst (V.bl false))) .nil) .nil) (.cons (.asg (.name 2) (nE 0)) (.cons (.for_ (.name 3) (.list (.var 0)) qFX) (.cons (.ret (.cst (V.bl true))) .nil))))
theorem t3:Tb.fns[3]?=some ⟨2,4,b3⟩:=by kernel_rfl
noncomputable def b4:Ss:=(.cons (.ret (.idx (.glob 0) (.var 0))) .nil)
theorem t4:Tb.fns[4]?=some ⟨1,1,b4⟩:=by kernel_rfl
noncomputable def b5:Ss:=(.cons (.ret (.cmp .inn (.var 0) (.sl (.glob 0) (.cons (nE 1) .nil) .nil))) .nil)
theorem t5:Tb.fns[5]?=some ⟨1,1,b5⟩:=by kernel_rfl
noncomputable def b6:Ss:=(.cons (.ret (.and (.call 0 (.cons (.var 0) .nil)) (.cmp2 .le .le (nE 1) (.var 0) (nE 5)))) .nil)
theorem t6:Tb.fns[6]?=some ⟨1,1,b6⟩:=by kernel_rfl
noncomputable def b7:Ss:=(.cons (.ifs (.or (.not (.isi (.var 0) ["tuple"])) (.cmp .ne (.blt .len (.cons (.var 0) .nil)) (nE 2))) (.cons (.ret (.cst (V.bl false))) .nil) .nil) (.cons (.ifs (.or (.not (.call 0 (.cons (.idx (.var 0) (nE 0)) .nil))) (.or (.not (.call 0 (.cons (.idx (.var 0) (nE 1)) .nil))) (.cmp .lt (.idx (.var 0) (nE 1)) (nE 1)))) (.cons (.ret (.cst (V.bl false))) .nil) .nil) (.cons (.ret (.cmp .eq (.call 10 (.cons (.blt .abs (.cons (.idx (.var 0) (nE 0)) .nil)) (.cons (.idx (.var 0) (nE 1)) .nil))) (nE 1))) .nil)))
theorem t7:Tb.fns[7]?=some ⟨1,1,b7⟩:=by kernel_rfl
noncomputable def b8:Ss:=(.cons (.ret (.and (.call 7 (.cons (.var 0) .nil)) (.cmp3 .le .le .le (nE 0) (.idx (.var 0) (nE 0)) (.idx (.var 0) (nE 1)) (nE 999999999999)))) .nil)
theorem t8:Tb.fns[8]?=some ⟨1,1,b8⟩:=by kernel_rfl
noncomputable def b9:Ss:=(.cons (.ifs (.or (.not (.call 0 (.cons (.var 0) .nil))) (.or (.not (.call 0 (.cons (.var 1) .nil))) (.cmp .eq (.var 1) (nE 0)))) (.cons (.raise 1) .nil) .nil) (.cons (.asg (.name 2) (.call 10 (.cons (.blt .abs (.cons (.var 0) .nil)) (.cons (.blt .abs (.cons (.var 1) .nil)) .nil)))) (.cons (.ifs (.cmp .lt (.var 1) (nE 0)) (.cons (.asg (.name 2) (.neg (.var 2))) .nil) .nil) (.cons (.ret (.tup (.cons (.bin .fdiv (.var 0) (.var 2)) (.cons (.bin .fdiv (.var 1) (.var 2)) .nil)))) .nil))))
theorem t9:Tb.fns[9]?=some ⟨2,3,b9⟩:=by kernel_rfl
noncomputable def qBm:Ss:=(.cons (.asg (.name 2) (.bin .mod (.var 0) (.var 1))) (.cons (.asg (.name 0) (.var 1)) (.cons (.asg (.name 1) (.var 2)) .nil)))
noncomputable def b10:Ss:=(.cons (.while_ (.cmp .ne (.var 1) (nE 0)) qBm) (.cons (.ret (.var 0)) .nil))
theorem t10:Tb.fns[10]?=some ⟨2,3,b10⟩:=by kernel_rfl
noncomputable def b11:Ss:=(.cons (.ret (.call 9 (.cons (.bin .add (.bin .mul (.idx (.var 0) (nE 0)) (.idx (.var 1) (nE 1))) (.bin .mul (.idx (.var 1) (nE 0)) (.idx (.var 0) (nE 1)))) (.cons (.bin .mul (.idx (.var 0) (nE 1)) (.idx (.var 1) (nE 1))) .nil)))) .nil)
theorem t11:Tb.fns[11]?=some ⟨2,2,b11⟩:=by kernel_rfl
noncomputable def b12:Ss:=(.cons (.ret (.call 9 (.cons (.bin .sub (.bin .mul (.idx (.var 0) (nE 0)) (.idx (.var 1) (nE 1))) (.bin .mul (.idx (.var 1) (nE 0)) (.idx (.var 0) (nE 1)))) (.cons (.bin .mul (.idx (.var 0) (nE 1)) (.idx (.var 1) (nE 1))) .nil)))) .nil)
theorem t12:Tb.fns[12]?=some ⟨2,2,b12⟩:=by kernel_rfl
noncomputable def b13:Ss:=(.cons (.ret (.call 9 (.cons (.bin .mul (.idx (.var 0) (nE 0)) (.idx (.var 1) (nE 0))) (.cons (.bin .mul (.idx (.var 0) (nE 1)) (.idx (.var 1) (nE 1))) .nil)))) .nil)
theorem t13:Tb.fns[13]?=some ⟨2,2,b13⟩:=by kernel_rfl
noncomputable def b14:Ss:=(.cons (.ret (.cmp .lt (.bin .mul (.idx (.var 0) (nE 0)) (.idx (.var 1) (nE 1))) (.bin .mul (.idx (.var 1) (nE 0)) (.idx (.var 0) (nE 1))))) .nil)
theorem t14:Tb.fns[14]?=some ⟨2,2,b14⟩:=by kernel_rfl
noncomputable def b15:Ss:=(.cons (.ifs (.not (.call 16 (.cons (.var 0) .nil))) (.cons (.raise 2) .nil) .nil) .nil)
theorem t15:Tb.fns[15]?=some ⟨1,1,b15⟩:=by kernel_rfl
noncomputable def b16:Ss:=(.cons (.ret (.and (.isi (.var 0) ["list"]) (.and (.call 5 (.cons (.blt .len (.cons (.var 0) .nil)) .nil)) (.call 17 (.cons (.var 0) (.cons (.blt .len (.cons (.var 0) .nil)) .nil)))))) .nil)
theorem t16:Tb.fns[16]?=some ⟨1,1,b16⟩:=by kernel_rfl
noncomputable def b17:Ss:=(.cons (.ret (.and (.isi (.var 0) ["list"]) (.and (.cmp .eq (.blt .len (.cons (.var 0) .nil)) (.var 1)) (.blt .all (.cons (.comp (.list (.var 0)) [none] (.name 0) .nil (.call 8 (.cons (.var 0) .nil))) .nil))))) .nil)
theorem t17:Tb.fns[17]?=some ⟨2,2,b17⟩:=by kernel_rfl
noncomputable def b18:Ss:=(.cons (.asg (.name 1) (.bin .fdiv (.blt .len (.cons (.var 0) .nil)) (nE 2))) (.cons (.asg (.name 2) (.comp (.rng1 (.var 1)) [none,some 1,some 0] (.name 0) .nil (.call 19 (.cons (.idx (.var 2) (.var 0)) (.cons (.idx (.var 2) (.bin .add (.var 1) (.var 0))) .nil))))) (.cons (.asg (.name 3) (.comp (.rng1 (.var 1)) [none,some 1,some 0] (.name 0) .nil (.call 13 (.cons (.idx (.var 2) (.var 0)) (.cons (.idx (.var 2) (.bin .add (.var 1) (.var 0))) .nil))))) (.cons (.ret (.tup (.cons (.var 2) (.cons (.var 3) .nil)))) .nil))))
theorem t18:Tb.fns[18]?=some ⟨1,4,b18⟩:=by kernel_rfl
noncomputable def b19:Ss:=(.cons (.ret (.call 12 (.cons (.call 11 (.cons (.var 0) (.cons (.var 1) .nil))) (.cons (.call 13 (.cons (.var 0) (.cons (.var 1) .nil))) .nil)))) .nil)
theorem t19:Tb.fns[19]?=some ⟨2,2,b19⟩:=by kernel_rfl
noncomputable def b20:Ss:=(.cons (.xexpr 15 (.cons (.var 0) .nil)) (.cons (.ret (.call 21 (.cons (.var 0) .nil))) .nil))
theorem t20:Tb.fns[20]?=some ⟨1,1,b20⟩:=by kernel_rfl
noncomputable def b21:Ss:=(.cons (.ifs (.cmp .eq (.blt .len (.cons (.var 0) .nil)) (nE 1)) (.cons (.ret (.blt .list (.cons (.var 0) .nil))) .nil) .nil) (.cons (.asg (.name 1) (.call 18 (.cons (.var 0) .nil))) (.cons (.ret (.bin .add (.call 21 (.cons (.idx (.var 1) (nE 0)) .nil)) (.call 21 (.cons (.idx (.var 1) (nE 1)) .nil)))) .nil)))
theorem t21:Tb.fns[21]?=some ⟨1,2,b21⟩:=by kernel_rfl
noncomputable def b22:Ss:=(.cons (.xexpr 15 (.cons (.var 0) .nil)) (.cons (.xexpr 23 (.cons (.var 1) (.cons (.blt .len (.cons (.var 0) .nil)) .nil))) (.cons (.ret (.call 24 (.cons (.call 20 (.cons (.var 0) .nil)) (.cons (.lrng (.blt .len (.cons (.var 0) .nil))) (.cons (.var 1) .nil))))) .nil)))
theorem t22:Tb.fns[22]?=some ⟨2,2,b22⟩:=by kernel_rfl
noncomputable def b23:Ss:=(.cons (.ifs (.or (.not (.call 0 (.cons (.var 0) .nil))) (.not (.cmp2 .le .le (nE 1) (.var 0) (.var 1)))) (.cons (.raise 1) .nil) .nil) .nil)
theorem t23:Tb.fns[23]?=some ⟨2,2,b23⟩:=by kernel_rfl
noncomputable def b24:Ss:=(.cons (.ret (.comp (.list (.var 1)) [none,some 2,some 1,some 0] (.name 0) (.cons (.cmp .lt (.call 25 (.cons (.var 3) (.cons (.var 2) (.cons (.var 0) .nil)))) (.var 1)) .nil) (.var 0))) .nil)
theorem t24:Tb.fns[24]?=some ⟨3,3,b24⟩:=by kernel_rfl
noncomputable def b25:Ss:=(.cons (.ret (.blt .sum (.cons (.comp (.list (.var 1)) [none,some 2,some 0] (.name 0) (.cons (.call 26 (.cons (.var 2) (.cons (.var 0) (.cons (.var 1) .nil)))) .nil) (nE 1)) .nil))) .nil)
theorem t25:Tb.fns[25]?=some ⟨3,3,b25⟩:=by kernel_rfl
noncomputable def b26:Ss:=(.cons (.ifs (.cmp .eq (.idx (.var 0) (.var 1)) (.idx (.var 0) (.var 2))) (.cons (.ret (.cmp .gt (.var 1) (.var 2))) .nil) .nil) (.cons (.ret (.call 14 (.cons (.idx (.var 0) (.var 1)) (.cons (.idx (.var 0) (.var 2)) .nil)))) .nil))
theorem t26:Tb.fns[26]?=some ⟨3,3,b26⟩:=by kernel_rfl
noncomputable def b27:Ss:=(.cons (.ret (.cmp .eq (.bin .band (.var 0) (.var 1)) (.var 1))) .nil)
theorem t27:Tb.fns[27]?=some ⟨2,2,b27⟩:=by kernel_rfl
noncomputable def b28:Ss:=(.cons (.ifs (.or (.not (.isi (.var 0) ["tuple"])) (.or (.cmp .ne (.blt .len (.cons (.var 0) .nil)) (nE 3)) (.not (.call 6 (.cons (.idx (.var 0) (nE 0)) .nil))))) (.cons (.ret (.cst (V.bl false))) .nil) .nil) (.cons (.asg (.name 1) (.call 4 (.cons (.idx (.var 0) (nE 0)) .nil))) (.cons (.ifs (.or (.not (.call 2 (.cons (.idx (.var 0) (nE 1)) (.cons (.bin .add (nE 6) (nE 1)) .nil)))) (.cmp .ne (.blt .len (.cons (.idx (.var 0) (nE 1)) .nil)) (.var 1))) (.cons (.ret (.cst (V.bl false))) .nil) .nil) (.cons (.ret (.and (.call 3 (.cons (.idx (.var 0) (nE 2)) (.cons (.var 1) .nil))) (.blt .all (.cons (.comp (.list (.idx (.var 0) (nE 2))) [none,some 0] (.name 0) .nil (.call 29 (.cons (.idx (.var 1) (nE 1)) (.cons (.idx (.var 1) (nE 2)) (.cons (.var 0) .nil))))) .nil)))) .nil))))
theorem t28:Tb.fns[28]?=some ⟨1,2,b28⟩:=by kernel_rfl
noncomputable def b29:Ss:=(.cons (.asg (.name 3) (.comp (.rng1 (.blt .len (.cons (.var 0) .nil))) [none,some 2] (.name 0) (.cons (.call 27 (.cons (.var 0) (.cons (.var 1) .nil))) .nil) (.var 0))) (.cons (.ret (.and (.cmp .eq (.idx (.var 0) (.var 2)) (nE 0)) (.blt .all (.cons (.comp (.list (.var 3)) [none,some 1] (.name 0) .nil (.cmp .inn (.var 0) (.var 1))) .nil)))) .nil))
theorem t29:Tb.fns[29]?=some ⟨3,4,b29⟩:=by kernel_rfl
noncomputable def b30:Ss:=(.cons (.ifs (.not (.call 28 (.cons (.var 0) .nil))) (.cons (.raise 3) .nil) .nil) .nil)
theorem t30:Tb.fns[30]?=some ⟨1,1,b30⟩:=by kernel_rfl
noncomputable def qAG:Ss:=(.cons (.expr (.meth .ext (.var 1) (.cons (.comp (.enum (.idx (.var 0) (nE 1))) [none,none,some 2] (.tup [0,1]) (.cons (.cmp .gt (.var 1) (.var 2)) .nil) (.var 0)) .nil))) .nil)
noncomputable def b31:Ss:=(.cons (.asg (.name 1) (.lst .nil)) (.cons (.for_ (.name 2) (.rng1 (nE 6)) qAG) (.cons (.ret (.var 1)) .nil)))
theorem t31:Tb.fns[31]?=some ⟨1,3,b31⟩:=by kernel_rfl
noncomputable def qCp:Ss:=(.cons (.put (.var 4) (.var 3) (.call 13 (.cons (.idx (.var 4) (.var 3)) (.cons (.var 5) .nil)))) .nil)
noncomputable def b32:Ss:=(.cons (.xexpr 30 (.cons (.var 0) .nil)) (.cons (.asg (.name 2) (.call 31 (.cons (.var 0) .nil))) (.cons (.ifs (.not (.call 17 (.cons (.var 1) (.cons (.blt .len (.cons (.var 2) .nil)) .nil)))) (.cons (.raise 2) .nil) .nil) (.cons (.asg (.name 4) (.comp (.rng1 (.call 4 (.cons (.idx (.var 0) (nE 0)) .nil))) [none,some 0] (.name 0) .nil (.ite (.cmp .inn (.var 0) (.idx (.var 1) (nE 2))) (.tup (.cons (nE 0) (.cons (nE 1) .nil))) (.tup (.cons (nE 1) (.cons (nE 1) .nil)))))) (.cons (.for_ (.tup [3,5]) (.zip (.var 2) (.var 1)) qCp) (.cons (.ret (.var 4)) .nil))))))
theorem t32:Tb.fns[32]?=some ⟨2,6,b32⟩:=by kernel_rfl
noncomputable def b33:Ss:=(.cons (.ret (.call 21 (.cons (.call 32 (.cons (.var 0) (.cons (.var 1) .nil))) .nil))) .nil)
theorem t33:Tb.fns[33]?=some ⟨2,2,b33⟩:=by kernel_rfl
noncomputable def b34:Ss:=(.cons (.asg (.name 3) (.call 32 (.cons (.var 0) (.cons (.var 1) .nil)))) (.cons (.asg (.name 4) (.comp (.rng1 (.blt .len (.cons (.var 3) .nil))) [none,some 0] (.name 0) (.cons (.cmp .notin (.var 0) (.idx (.var 1) (nE 2))) .nil) (.var 0))) (.cons (.xexpr 23 (.cons (.var 2) (.cons (.blt .len (.cons (.var 4) .nil)) .nil))) (.cons (.ret (.call 24 (.cons (.call 21 (.cons (.var 3) .nil)) (.cons (.var 4) (.cons (.var 2) .nil))))) .nil))))
theorem t34:Tb.fns[34]?=some ⟨3,5,b34⟩:=by kernel_rfl
noncomputable def b35:Ss:=(.cons (.asg (.name 2) (nE 0)) (.cons (.ifs (.cmp .lt (.var 1) (.blt .len (.cons (.var 0) .nil))) (.cons (.asg (.name 2) (.idx (.var 0) (.var 1))) .nil) .nil) (.cons (.asg (.name 3) (nE 0)) (.cons (.ifs (.cmp .ge (.var 2) (.bin .pow (nE 10) (nE 18))) (.cons (.asg (.name 3) (.var 2)) .nil) .nil) (.cons (.ret (.lst (.cons (.var 3) (.cons (.bin .mod (.bin .pow (.bin .add (.bin .add (.bin .mod (.var 2) (nE 998244353)) (.bin .mul (nE 7368787) (.var 1))) (nE 17)) (nE 3)) (nE 2147483629)) .nil)))) .nil)))))
theorem t35:Tb.fns[35]?=some ⟨2,4,b35⟩:=by kernel_rfl
noncomputable def b36:Ss:=(.cons (.ifs (.cmp .gt (.idx (.var 0) (nE 0)) (nE 0)) (.cons (.asg (.name 2) (.bin .mod (.idx (.var 0) (nE 0)) (.var 1))) (.cons (.put (.var 0) (nE 0) (.bin .fdiv (.idx (.var 0) (nE 0)) (.var 1))) (.cons (.ret (.var 2)) .nil))) .nil) (.cons (.put (.var 0) (nE 1) (.bin .mod (.bin .add (.bin .mul (.idx (.var 0) (nE 1)) (nE 40692)) (nE 12345)) (nE 2147483399))) (.cons (.ret (.bin .mod (.bin .fdiv (.bin .mod (.bin .mul (.idx (.var 0) (nE 1)) (.bin .add (.bin .fdiv (.idx (.var 0) (nE 1)) (nE 1024)) (nE 7))) (nE 2147483647)) (nE 32)) (.var 1))) .nil)))
theorem t36:Tb.fns[36]?=some ⟨2,3,b36⟩:=by kernel_rfl
noncomputable def b37:Ss:=(.cons (.ret (.and (.isi (.var 0) ["int"]) (.not (.isi (.var 0) ["bool"])))) .nil)
theorem t37:Tb.fns[37]?=some ⟨1,1,b37⟩:=by kernel_rfl
noncomputable def w4:Ss:=(.cons (.par 2 3 (.var 3) (.bin .mod (.var 2) (.var 3))) .nil)
noncomputable def b38:Ss:=(.cons (.asg (.name 2) (.blt .abs (.cons (.var 0) .nil))) (.cons (.asg (.name 3) (.var 1)) (.cons (.while_ (.cmp .ne (.var 3) (nE 0)) w4) (.cons (.ret (.tup (.cons (.bin .fdiv (.var 0) (.var 2)) (.cons (.bin .fdiv (.var 1) (.var 2)) .nil)))) .nil))))
theorem t38:Tb.fns[38]?=some ⟨2,4,b38⟩:=by kernel_rfl
noncomputable def b39:Ss:=(.cons (.ret (.call 38 (.cons (.bin .add (.bin .mul (.idx (.var 0) (nE 0)) (.idx (.var 1) (nE 1))) (.bin .mul (.idx (.var 1) (nE 0)) (.idx (.var 0) (nE 1)))) (.cons (.bin .mul (.idx (.var 0) (nE 1)) (.idx (.var 1) (nE 1))) .nil)))) .nil)
theorem t39:Tb.fns[39]?=some ⟨2,2,b39⟩:=by kernel_rfl
noncomputable def b40:Ss:=(.cons (.ret (.call 38 (.cons (.bin .mul (.idx (.var 0) (nE 0)) (.idx (.var 1) (nE 0))) (.cons (.bin .mul (.idx (.var 0) (nE 1)) (.idx (.var 1) (nE 1))) .nil)))) .nil)
theorem t40:Tb.fns[40]?=some ⟨2,2,b40⟩:=by kernel_rfl
noncomputable def b41:Ss:=(.cons (.ifs (.or (.not (.isi (.var 0) ["tuple"])) (.or (.cmp .ne (.blt .len (.cons (.var 0) .nil)) (nE 2)) (.or (.not (.call 37 (.cons (.idx (.var 0) (nE 0)) .nil))) (.not (.call 37 (.cons (.idx (.var 0) (nE 1)) .nil)))))) (.cons (.ret (.cst (V.bl false))) .nil) .nil) (.cons (.ret (.and (.cmp .gt (.idx (.var 0) (nE 1)) (nE 0)) (.cmp .eq (.call 38 (.cons (.idx (.var 0) (nE 0)) (.cons (.idx (.var 0) (nE 1)) .nil))) (.var 0)))) .nil))
theorem t41:Tb.fns[41]?=some ⟨1,1,b41⟩:=by kernel_rfl
noncomputable def b42:Ss:=(.cons (.ret (.bin .mod (.bin .add (.bin .mul (.call 36 (.cons (.var 0) (.cons (.bin .pow (nE 10) (nE 6)) .nil))) (.bin .pow (nE 10) (nE 6))) (.call 36 (.cons (.var 0) (.cons (.bin .pow (nE 10) (nE 6)) .nil)))) (.var 1))) .nil)
theorem t42:Tb.fns[42]?=some ⟨2,2,b42⟩:=by kernel_rfl
noncomputable def b43:Ss:=(.cons (.asg (.name 2) (.call 36 (.cons (.var 0) (.cons (.var 1) .nil)))) (.cons (.ifs (.cmp .lt (.var 2) (nE 3)) (.cons (.ret (.idx (.lst (.cons (.tup (.cons (nE 1) (.cons (nE 2) .nil))) (.cons (.tup (.cons (nE 0) (.cons (nE 1) .nil))) (.cons (.tup (.cons (nE 1) (.cons (nE 1) .nil))) .nil)))) (.var 2))) .nil) .nil) (.cons (.asg (.name 3) (.bin .add (nE 1) (.call 42 (.cons (.var 0) (.cons (.idx (.lst (.cons (nE 9) (.cons (nE 99) (.cons (.bin .sub (.bin .pow (nE 10) (nE 12)) (nE 1)) .nil)))) (.bin .sub (.var 2) (nE 3))) .nil))))) (.cons (.ret (.call 38 (.cons (.call 42 (.cons (.var 0) (.cons (.bin .add (.var 3) (nE 1)) .nil))) (.cons (.var 3) .nil)))) .nil))))
theorem t43:Tb.fns[43]?=some ⟨2,4,b43⟩:=by kernel_rfl
noncomputable def b44:Ss:=(.cons (.asg (.name 1) (.bin .add (nE 1) (.call 36 (.cons (.var 0) (.cons (nE 5) .nil))))) (.cons (.asg (.name 2) (.bin .shl (nE 1) (.var 1))) (.cons (.asg (.name 3) (.call 36 (.cons (.var 0) (.cons (nE 3) .nil)))) (.cons (.asg (.name 4) (.call 36 (.cons (.var 0) (.cons (.var 2) .nil)))) (.cons (.asg (.name 5) (.comp (.rng1 (.var 2)) [none,some 4,some 3] (.name 0) (.cons (.or (.and (.cmp .eq (.var 2) (nE 1)) (.cmp .ge (.var 0) (.var 1))) (.and (.cmp .eq (.var 2) (nE 2)) (.cmp .eq (.bin .band (.var 0) (.var 1)) (.var 1)))) .nil) (.var 0))) (.cons (.asg (.name 6) (.idx (.lst (.cons (nE 2) (.cons (nE 7) .nil))) (.call 36 (.cons (.var 0) (.cons (nE 2) .nil))))) (.cons (.ret (.tup (.cons (.var 1) (.cons (.comp (.rng1 (.var 2)) [none,some 0,some 5,some 6] (.name 0) .nil (.bin .mul (.call 36 (.cons (.var 1) (.cons (.var 3) .nil))) (.blt .int (.cons (.cmp .notin (.var 0) (.var 2)) .nil)))) (.cons (.var 5) .nil))))) .nil)))))))
theorem t44:Tb.fns[44]?=some ⟨1,7,b44⟩:=by kernel_rfl
noncomputable def v7:Ss:=(.cons (.asg (.name 1) (.bin .add (.var 1) (.comp (.rng1 (.blt .len (.cons (.idx (.var 0) (nE 1)) .nil))) [none,some 0,some 2] (.name 0) (.cons (.cmp .gt (.idx (.idx (.var 1) (nE 1)) (.var 0)) (.var 2)) .nil) (.var 0)))) .nil)
noncomputable def b45:Ss:=(.cons (.asg (.name 1) (.lst .nil)) (.cons (.for_ (.name 2) (.rng1 (nE 6)) v7) (.cons (.ret (.var 1)) .nil)))
theorem t45:Tb.fns[45]?=some ⟨1,3,b45⟩:=by kernel_rfl
noncomputable def qCY:Ss:=(.cons (.asg (.name 5) (.call 40 (.cons (.idx (.var 0) (.var 4)) (.cons (.idx (.var 0) (.bin .add (.var 1) (.var 4))) .nil)))) (.cons (.expr (.app (.var 2) (.call 39 (.cons (.call 39 (.cons (.idx (.var 0) (.var 4)) (.cons (.idx (.var 0) (.bin .add (.var 1) (.var 4))) .nil))) (.cons (.tup (.cons (.bin .sub (nE 0) (.idx (.var 5) (nE 0))) (.cons (.idx (.var 5) (nE 1)) .nil))) .nil))))) (.cons (.expr (.app (.var 3) (.var 5))) .nil)))
noncomputable def b46:Ss:=(.cons (.ifs (.cmp .eq (.blt .len (.cons (.var 0) .nil)) (nE 1)) (.cons (.ret (.blt .list (.cons (.var 0) .nil))) .nil) .nil) (.cons (.asg (.name 1) (.bin .fdiv (.blt .len (.cons (.var 0) .nil)) (nE 2))) (.cons (.asg (.name 2) (.lst .nil)) (.cons (.asg (.name 3) (.lst .nil)) (.cons (.for_ (.name 4) (.rng1 (.var 1)) qCY) (.cons (.ret (.bin .add (.call 46 (.cons (.var 2) .nil)) (.call 46 (.cons (.var 3) .nil)))) .nil))))))
theorem t46:Tb.fns[46]?=some ⟨1,6,b46⟩:=by kernel_rfl
noncomputable def b47:Ss:=(.cons (.ret (.cmp .lt (.bin .mul (.idx (.var 0) (nE 0)) (.idx (.var 1) (nE 1))) (.bin .mul (.idx (.var 1) (nE 0)) (.idx (.var 0) (nE 1))))) .nil)
theorem t47:Tb.fns[47]?=some ⟨2,2,b47⟩:=by kernel_rfl
noncomputable def qB9:Ss:=(.cons (.ifs (.call 47 (.cons (.idx (.var 0) (.var 6)) (.cons (.idx (.var 0) (.var 5)) .nil))) (.cons (.asg (.name 5) (.var 6)) .nil) .nil) .nil)
noncomputable def qBa:Ss:=(.cons (.asg (.name 5) (.idx (.var 1) (.neg (nE 1)))) (.cons (.for_ (.name 6) (.revd (.var 1)) qB9) (.cons (.asg (.name 1) (.comp (.list (.var 1)) [none,some 5] (.name 0) (.cons (.cmp .ne (.var 0) (.var 1)) .nil) (.var 0))) (.cons (.expr (.app (.var 3) (.var 5))) .nil))))
noncomputable def b48:Ss:=(.cons (.asg (.name 3) (.lst .nil)) (.cons (.for_ (.name 4) (.rng1 (.var 2)) qBa) (.cons (.ret (.blt .sorted (.cons (.var 3) .nil))) .nil)))
theorem t48:Tb.fns[48]?=some ⟨3,7,b48⟩:=by kernel_rfl
noncomputable def b49:Ss:=(.cons (.asg (.name 2) (.cst V.non)) (.cons (.tryE (.xexpr 22 (.cons (.var 0) (.cons (nE 1) .nil))) 3 2 cnL) (.cons (.ifs (.var 1) (.cons (.ret (.cmp .is (.var 2) (.cst V.non))) .nil) .nil) (.cons (.ret (.and (.isx (.var 2) cnL ["NoRoad"]) (.isx (.var 2) cnL ["ValueError"]))) .nil))))
theorem t49:Tb.fns[49]?=some ⟨2,4,b49⟩:=by kernel_rfl
noncomputable def qCG:Ss:=(.cons (.asg (.name 9) (.call 32 (.cons (.idx (.var 7) (nE 0)) (.cons (.idx (.var 7) (nE 1)) .nil)))) (.cons (.asg (.name 10) (.call 33 (.cons (.idx (.var 7) (nE 0)) (.cons (.idx (.var 7) (nE 1)) .nil)))) (.cons (.ifs (.or (.cmp .ne (.var 9) (.var 3)) (.or (.cmp .ne (.var 10) (.var 6)) (.or (.not (.isi (.var 9) ["list"])) (.not (.isi (.var 10) ["list"]))))) (.cons (.ret (.cst (V.bl false))) .nil) .nil) (.cons (.ifs (.cmp .ne (.comp (.list (.bin .add (.var 9) (.var 10))) [none] (.name 0) (.cons (.not (.call 41 (.cons (.var 0) .nil))) .nil) (.var 0)) (.lst .nil)) (.cons (.ret (.cst (V.bl false))) .nil) .nil) (.cons (.expr (.meth .clr (.var 9) .nil)) (.cons (.expr (.meth .clr (.var 10) .nil)) .nil))))))
noncomputable def qBw:Ss:=(.cons (.put (.var 3) (.idx (.var 4) (.var 5)) (.call 40 (.cons (.idx (.var 3) (.idx (.var 4) (.var 5))) (.cons (.idx (.var 1) (.var 5)) .nil)))) .nil)
noncomputable def qGj:S:=(.ifs (.cmp .lt (.blt .maxl (.cons (.comp (.list (.var 3)) [none] (.name 0) .nil (.idx (.var 0) (nE 1))) .nil)) (.bin .pow (nE 10) (nE 12))) (.cons (.ifs (.or (.cmp .ne (.call 20 (.cons (.blt .list (.cons (.var 3) .nil)) .nil)) (.var 6)) (.not (.call 49 (.cons (.blt .list (.cons (.var 3) .nil)) (.cons (.cst (V.bl true)) .nil))))) (.cons (.ret (.cst (V.bl false))) .nil) .nil) .nil) (.cons (.ifs (.not (.call 49 (.cons (.blt .list (.cons (.var 3) .nil)) (.cons (.cst (V.bl false)) .nil)))) (.cons (.ret (.cst (V.bl false))) .nil) .nil) .nil))
noncomputable def qFV:S:=(.ifs (.cmp .ne (.var 11) (.lst .nil)) (.cons (.asg (.name 2) (.bin .add (nE 1) (.bin .mod (.var 2) (.blt .len (.cons (.var 11) .nil))))) (.cons (.asg (.name 12) (.call 34 (.cons (.idx (.var 7) (nE 0)) (.cons (.idx (.var 7) (nE 1)) (.cons (.var 2) .nil))))) (.cons (.ifs (.or (.not (.isi (.var 12) ["list"])) (.cmp .ne (.var 12) (.call 48 (.cons (.var 6) (.cons (.var 11) (.cons (.var 2) .nil)))))) (.cons (.ret (.cst (V.bl false))) .nil) .nil) .nil))) .nil)
noncomputable def b50:Ss:=(.cons (.asg (.name 3) (.comp (.rng1 (.blt .len (.cons (.idx (.var 0) (nE 1)) .nil))) [none,some 0] (.name 0) .nil (.idx (.lst (.cons (.tup (.cons (nE 1) (.cons (nE 1) .nil))) (.cons (.tup (.cons (nE 0) (.cons (nE 1) .nil))) .nil))) (.blt .int (.cons (.cmp .inn (.var 0) (.idx (.var 1) (nE 2))) .nil))))) (.cons (.asg (.name 4) (.call 45 (.cons (.var 0) .nil))) (.cons (.for_ (.name 5) (.rng1 (.blt .len (.cons (.var 4) .nil))) qBw) (.cons (.asg (.name 6) (.call 46 (.cons (.var 3) .nil))) (.cons (.asg (.name 7) (.lst (.cons (.tup (.cons (.idx (.var 0) (nE 0)) (.cons (.blt .list (.cons (.idx (.var 0) (nE 1)) .nil)) (.cons (.blt .list (.cons (.idx (.var 0) (nE 2)) .nil)) .nil)))) (.cons (.blt .list (.cons (.var 1) .nil)) .nil)))) (.cons (.for_ (.name 8) (.rng1 (nE 2)) qCG) (.cons qGj (.cons (.asg (.name 11) (.comp (.rng1 (.blt .len (.cons (.var 3) .nil))) [none,some 0] (.name 0) (.cons (.cmp .notin (.var 0) (.idx (.var 1) (nE 2))) .nil) (.var 0))) (.cons qFV (.cons (.ret (.cmp .eq (.var 7) (.lst (.cons (.var 0) (.cons (.var 1) .nil))))) .nil))))))))))
theorem t50:Tb.fns[50]?=some ⟨3,13,b50⟩:=by kernel_rfl
noncomputable def qCw:Ss:=(.cons (.asg (.name 2) (.call 35 (.cons (.var 0) (.cons (.var 1) .nil)))) (.cons (.asg (.name 3) (.call 44 (.cons (.var 2) .nil))) (.cons (.asg (.name 4) (.comp (.list (.call 45 (.cons (.var 3) .nil))) [none,some 2,some 3] (.name 0) .nil (.call 43 (.cons (.var 1) (.cons (.idx (.lst (.cons (nE 6) (.cons (nE 4) .nil))) (.blt .int (.cons (.cmp .gt (.idx (.var 2) (nE 0)) (nE 3)) .nil))) .nil))))) (.cons (.ifs (.not (.call 50 (.cons (.var 3) (.cons (.var 4) (.cons (.call 36 (.cons (.var 2) (.cons (nE 32) .nil))) .nil))))) (.cons (.ret (.cst (V.bl false))) .nil) .nil) .nil))))
noncomputable def b51:Ss:=(.cons (.for_ (.name 1) (.rng1 (.blt .max (.cons (nE 1) (.cons (.blt .min (.cons (.blt .len (.cons (.var 0) .nil)) (.cons (nE 3) .nil))) .nil)))) qCw) (.cons (.ret (.cst (V.bl true))) .nil))
theorem t51:Tb.fns[51]?=some ⟨1,5,b51⟩:=by kernel_rfl
noncomputable def Cs:List (List Nat):=[[],[],[],[],[],[],[],[],[],[],[],[],[],[],[],[],[],[],[],[],[],[],[],[],[],[],[],[],[],[],[],[1],[4],[],[],[],[],[],[],[],[],[],[],[],[],[],[2,3],[],[3],[],[3,9,10],[2]]
section
variable{k:Nat}
noncomputable abbrev I(x:Int):T:=.v (.int x)
theorem Jq{M:Mem}(c:Nat):QY M.length (.exc c M)=.exc c M:=by
 show (if M.length=M.length then _ else _)=_;rw[if_pos rfl]
noncomputable def stT(g s:Nat):List T:=[N g,N s]
def qAi(M:Mem)(n:Nat):Prop:=∃g s,M[n]?=some (stT g s)/\s<2147483648
structure Kept(n:Nat)(M M':Mem):Prop where
 good:qAi M' n
 len:M'.length=M.length
 oth:∀j,j≠n->M'[j]?=M[j]?
theorem Kept.trans{n:Nat}{A B C:Mem}(x:Kept n A B)(y:Kept n B C):Kept n A C:=⟨y.good,y.len.trans x.len,λj hj=>(y.oth j hj).trans (x.oth j hj)⟩
theorem qII(hk:1<=k){M:Mem}{n m g s:Nat}(hm:0<m/\m<=1000000)(hg:0<g)(e:M[n]?=some [N g,N s])(e':∀y,(M.set n y)[n]?=some y):
  Pk (glT gs) Tb.fns Cs k 36 [.cell n,N m] M=.ok ((N (g % m),true),M.set n [N (g / m),N s]):=by
 have z:pxs (glT gs) (Pk (glT gs) Tb.fns Cs (k-1)) [] b36 [some (.cell n),some (N m),none] M=.ok (.rt (N (g % m),true),M.set n [N (g / m),N s]):=by
  have md:=jz (M:=M) (a:=g) hm.1;have fd:=ZC (M:=M) (a:=g) (b:=m) ⟨hm.1,wk hm.2 (by decide)⟩;have pt:Y8 M (.cell n) (N 0) (N (g / m))=some (M.set n [N (g / m),N s]):=qFh e
  rw[b36]
  repeat' first|with_reducible (first|exact md|exact fd|exact pt|exact e|exact lk0 .. | exact qS|exact qY|exact zH|exact ze|exact zP|exact C3 .. | assumption|apply qm|apply zJ|apply qo|apply t_3|apply jb|apply y7|apply qN|apply qGn)|((with_reducible apply qu);exact cN rfl)|assumption|exact dT hg|rfl
 exact qe t36 ⟨rfl,by decide⟩ hk rfl rfl z (qA (by simp))
theorem qHc(hk:1<=k){M:Mem}{n m s:Nat}(hm:0<m/\m<=1000000)(e:M[n]?=some [N 0,N s])(e':∀y,(M.set n y)[n]?=some y){s':Nat}(hs':(s*40692+12345) % 2147483399=s')(hq:s'<2147483399):
  Pk (glT gs) Tb.fns Cs k 36 [.cell n,N m] M=.ok ((N (s' * (s' / 1024+7) % 2147483647 / 32 % m),true),M.set n [N 0,N s']):=by
 have ml1:∀{M:Mem}(x:Nat),qq M .mul (N x) (N 40692)=some (N (x*40692),true):=λ{M} x=>Jm (.inr (by decide));have ml3:∀{M:Mem}(y:Nat),qq M .mul (N s') (N y)=some (N (s' * y),true):=λ{M} y=>Jm (.inl (vA hq (by decide)));have md1:∀{M:Mem}(x:Nat),qq M .mod (N x) (N 2147483399)=some (N (x % 2147483399),true):=λ{M} x=>jz (by decide);have md2:∀{M:Mem}(x:Nat),qq M .mod (N x) (N 2147483647)=some (N (x % 2147483647),true):=λ{M} x=>jz (by decide);have md3:∀{M:Mem}(x:Nat),qq M .mod (N x) (N m)=some (N (x % m),true):=λ{M} x=>jz hm.1;have fd1:∀{M:Mem}(x:Nat),qq M .fdiv (N x) (N 1024)=some (N (x / 1024),true):=λ{M} x=>ZC (by decide);have fd2:∀{M:Mem}(x:Nat),qq M .fdiv (N x) (N 32)=some (N (x / 32),true):=λ{M} x=>ZC (by decide);have m5:qq M .mul (N s) (N 40692)=some (N (s*40692),true):=ml1 s;have m6:qq M .mod (N (s*40692+12345)) (N 2147483399)=some (N s',true):=by rw[md1,hs']
 have pt:Y8 M (.cell n) (N 1) (N s')=some (M.set n [N 0,N s']):=qFr e;have e1:=e' [N 0,N s'];have z:pxs (glT gs) (Pk (glT gs) Tb.fns Cs (k-1)) [] b36 [some (.cell n),some (N m),none] M=.ok (.rt (N (s' * (s' / 1024+7) % 2147483647 / 32 % m),true),M.set n [N 0,N s']):=by
  rw[b36]
  repeat' first|with_reducible (first|exact m5|exact m6|exact pt|exact e|exact e1|exact lk0 .. | exact lk1 .. | exact ml3 _|exact md2 _|exact md3 _|exact fd1 _|exact fd2 _|exact qS|exact qY|exact ze|exact zZ .. | exact C3 .. | assumption|apply qm|apply zJ|apply qo|apply f_0|apply jb|apply y7|apply qN|apply qGn)|exact dF (wl 0)|(with_reducible rfl)
 exact qe t36 ⟨rfl,by decide⟩ hk rfl rfl z (qA (by simp))
theorem out(hk:1<=k){M:Mem}{n m:Nat}(g:qAi M n)(hm:0<m/\m<=1000000):∃d M',Pk (glT gs) Tb.fns Cs k 36 [.cell n,N m] M=.ok ((N d,true),M')/\d<m/\Kept n M M':=by
 obtain⟨a,s,e,hb⟩:=g;have hn:n<M.length:=(wB.mp e).1;have e':∀y,(M.set n y)[n]?=some y:=λy=>wn hn;rcases vc a with rfl|hp
 ·have hq:(s*40692+12345) % 2147483399<2147483399:=vd _ (by decide);exact⟨_,_,qHc hk hm e e' rfl hq,vd _ hm.1,⟨⟨0,_,e' _,vA hq (by decide)⟩,by simp,λj hj=>by rw[wW (Ne.symm hj)]⟩⟩
 ·exact⟨_,_,qII hk hm hp e e',vd _ hm.1,⟨⟨a / m,s,e' _,hb⟩,by simp,λj hj=>by rw[wW (Ne.symm hj)]⟩⟩
theorem qFy{M:Mem}:qq M .pow (N 10) (N 18)=some (N 1000000000000000000,true):=by rw[G6 (by decide)]
theorem qHJ(hk:1<=k){S:List T}{kk:Nat}(hkk:kk<=63)(M:Mem){cl:Int}(hc:(kk<S.length/\S[kk]?=some (I cl))\/(S.length<=kk/\cl=0)):∃g s,Pk (glT gs) Tb.fns Cs k 35 [.fz S,N kk] M=.ok ((.lst (stT g s),true),M)/\s<2147483648:=by
 obtain⟨c,hcc⟩:∃c:Nat,cl % 998244353=(c:Int):=⟨(cl % 998244353).toNat,by omega⟩
 have cb:c<998244353:=by omega
 have md:∀{M:Mem},qq M .mod (I cl) (N 998244353)=some (N c,true):=λ{M}=>by
  show qq M .mod (.v (.int cl)) (.v (.int 998244353))=_;rw[qBE (by decide)];unfold iT;rw[hcc];rfl
 have m1:∀{M:Mem},qq M .mul (N 7368787) (N kk)=some (N (7368787*kk),true):=λ{M}=>Jm (.inl (by decide));have pw:∀{M:Mem},qq M .pow (N (c+7368787*kk+17)) (N 3)=some (N ((c+7368787*kk+17) ^ 3),true):=λ{M}=>by
  unfold N;rw[qAg (by omega)];unfold iT;simp
 have md2:∀{M:Mem}(x:Nat),qq M .mod (N x) (N 2147483629)=some (N (x % 2147483629),true):=λ{M} x=>jz (by decide);have hs:(c+7368787*kk+17) ^ 3 % 2147483629<2147483648:=vA (vd _ (by decide)) (by decide);generalize (c+7368787*kk+17) ^ 3=q at pw hs;have ge:∀{M:Mem},qd M .ge (I cl) (N 1000000000000000000)=some (decide (1000000000000000000<=cl)):=λ{M}=>rfl;rcases hc with⟨h1,h2⟩|⟨h1,rfl⟩
 ·by_cases hg:(1000000000000000000:Int)<=cl
  ·obtain⟨gn,rfl⟩:∃gn:Nat,cl=(gn:Int):=⟨cl.toNat,by omega⟩
   refine⟨gn,q % 2147483629,?_,hs⟩;rw[uG hg]at ge;have ix:∀{M:Mem},zr M (.fz S) (N kk)=some (I gn,true):=λ{M}=>by
    show ((some S).bind λxs=>(_L.ixN xs.length (kk:Int)).bind λj=>(xs[j]?).map λt=>(t,t.lf))=_;rw[Option.bind_some];unfold _L.ixN;rw[if_pos (by omega),if_pos (by omega),Option.bind_some,vV,h2];rfl
   have ln:zG M .len [.fz S]=some (N S.length,true):=rfl;have z:pxs (glT gs) (Pk (glT gs) Tb.fns Cs (k-1)) [] b35 [some (.fz S),some (N kk),none,none] M=.ok (.rt (.lst (stT gn (q % 2147483629)),true),M):=by
    rw[b35]
    repeat' first|with_reducible (first|exact ln|exact md|exact m1|exact pw|exact md2 _|exact qFy|exact ge|exact ix|exact qS|exact qY|exact zH|exact zo|exact ze|exact qU|exact isT|exact isF|exact ll2|exact zP|exact zk|exact zZ .. | exact QN .. | assumption|apply qG|apply qm|apply zJ|apply qo|apply qx|apply jV|apply t_1|apply f_0|apply jb|apply qN)|((with_reducible apply qu);exact cN rfl)|assumption|exact dT h1|rfl
   exact qe t35 ⟨rfl,by decide⟩ hk rfl rfl z (qA rfl)
  ·refine⟨0,q % 2147483629,?_,hs⟩;rw[uF hg]at ge;have ix:∀{M:Mem},zr M (.fz S) (N kk)=some (I cl,true):=λ{M}=>by
    show ((some S).bind λxs=>(_L.ixN xs.length (kk:Int)).bind λj=>(xs[j]?).map λt=>(t,t.lf))=_;rw[Option.bind_some];unfold _L.ixN;rw[if_pos (by omega),if_pos (by omega),Option.bind_some,vV,h2];rfl
   have ln:zG M .len [.fz S]=some (N S.length,true):=rfl;have z:pxs (glT gs) (Pk (glT gs) Tb.fns Cs (k-1)) [] b35 [some (.fz S),some (N kk),none,none] M=.ok (.rt (.lst (stT 0 (q % 2147483629)),true),M):=by
    rw[b35]
    repeat' first|with_reducible (first|exact ln|exact md|exact m1|exact pw|exact md2 _|exact qFy|exact ge|exact ix|exact qS|exact qY|exact zH|exact zo|exact ze|exact qU|exact isT|exact isF|exact ll2|exact zP|exact zk|exact zZ .. | exact QN .. | assumption|apply qG|apply qm|apply zJ|apply qo|apply qx|apply jV|apply t_1|apply f_0|apply jb|apply qN)|((with_reducible apply qu);exact cN rfl)|assumption|exact dT h1|rfl
   exact qe t35 ⟨rfl,by decide⟩ hk rfl rfl z (qA rfl)
 ·refine⟨0,q % 2147483629,?_,hs⟩;have md0:qq M .mod (N 0) (N 998244353)=some (N c,true):=md;have ge0:qd M .ge (N 0) (N 1000000000000000000)=some false:=rfl;have ln:zG M .len [.fz S]=some (N S.length,true):=rfl;have z:pxs (glT gs) (Pk (glT gs) Tb.fns Cs (k-1)) [] b35 [some (.fz S),some (N kk),none,none] M=.ok (.rt (.lst (stT 0 (q % 2147483629)),true),M):=by
   rw[b35]
   repeat' first|with_reducible (first|exact ln|exact md0|exact m1|exact pw|exact md2 _|exact qFy|exact ge0|exact qS|exact qY|exact zH|exact zo|exact ze|exact qU|exact isT|exact isF|exact ll2|exact zP|exact zk|exact zZ .. | exact QN .. | assumption|apply qG|apply qm|apply zJ|apply qo|apply qx|apply jV|apply t_1|apply f_0|apply jb|apply qN)|((with_reducible apply qu);exact cN rfl)|assumption|exact dF (Nat.not_lt_of_le h1)|rfl
  exact qe t35 ⟨rfl,by decide⟩ hk rfl rfl z (qA rfl)
theorem bag(hk:1<=k)(ns:List Int){kk:Nat}(hkk:kk<=63)(M:Mem):∃g s,Pk (glT gs) Tb.fns Cs k 35 [.fz (ns.map λn=>.v (.int n)),N kk] M=.ok ((.lst (stT g s),true),M)/\s<2147483648:=by
 by_cases h:kk<ns.length
 ·exact qHJ hk hkk M (cl:=ns[kk]) (.inl ⟨by simpa using h,by rw[wj,wE h];rfl⟩)
 ·exact qHJ hk hkk M (cl:=0) (.inr ⟨by simp;omega,rfl⟩)
theorem f0(hk:1<=k)(x:Int)(M:Mem):Pk (glT gs) Tb.fns Cs k 0 [I x] M=.ok (bT true,M):=by
 rw[zK t0 ⟨rfl,by decide⟩ hk];simp[b0,jI,qA]
theorem f0N(hk:1<=k)(i:Nat)(M:Mem):Pk (glT gs) Tb.fns Cs k 0 [N i] M=.ok (bT true,M):=f0 hk (i:Int) M
theorem f1(hk:2<=k)(i e:Nat)(M:Mem):Pk (glT gs) Tb.fns Cs k 1 [N i,N e] M=.ok (bT (decide (i<e)),M):=by
 rw[zK t1 ⟨rfl,by decide⟩ (by omega)];simp(disch:=omega) [b1,f0N,qA]
theorem f4(hk:1<=k){s:Nat}(hs:s<=5)(M:Mem):Pk (glT gs) Tb.fns Cs k 4 [N s] M=.ok ((N (2 ^ s),true),M):=by
 have z:pxs (glT gs) (Pk (glT gs) Tb.fns Cs (k-1)) [] b4 [some (N s)] M=.ok (.rt (N (2 ^ s),true),M):=by
  rcases s with _|_|_|_|_|_|s
  all_goals first|exact absurd hs (Nat.not_le_of_lt (Nat.le_add_left 6 s))|rfl
 exact qe t4 ⟨rfl,by decide⟩ hk rfl rfl z (qA rfl)
theorem f6(hk:2<=k){s:Nat}(h1:1<=s)(hs:s<=5)(M:Mem):Pk (glT gs) Tb.fns Cs k 6 [N s] M=.ok (bT true,M):=by
 rw[zK t6 ⟨rfl,by decide⟩ (by omega)];simp(disch:=omega) [b6,f0N,h1,hs,qA]
theorem p5{s:Nat}(h:s<=5):2 ^ s<=32:=wG (wq (by decide) h) (by decide)
theorem qE4(hk:3<=k){M:Mem}{t:T}{L:List Nat}{n:Nat}(hI:IsL M t L)(h:∀x∈L,x<n)(hl:L.length<=100):Pk (glT gs) Tb.fns Cs k 2 [t,N n] M=.ok (bT true,M):=by
 obtain⟨d,s1,_,s2⟩:=hI.src;have c:qI d (.name 0) (pec (glT gs) (Pk (glT gs) Tb.fns Cs (k-1)) .nil) (pe (glT gs) (Pk (glT gs) Tb.fns Cs (k-1)) (.call 1 (.cons (.var 0) (.cons (.var 1) .nil)))) (L.map N) [] true [none,some (N n)] M=.ok ((.lst (L.map λv=>T.v (.bl (decide (v<n)))),true),M):=by
  have:=Zq (d:=d) (c:=pec (glT gs) (Pk (glT gs) Tb.fns Cs (k-1)) .nil) (e:=pe (glT gs) (Pk (glT gs) Tb.fns Cs (k-1)) (.call 1 (.cons (.var 0) (.cons (.var 1) .nil)))) (M:=M) (σ:=[some (N n)]) (λ_=>true) (λv=>T.v (.bl (decide (v<n)))) (λ_=>true) L [] true none s2 (by simp[lim];omega) (λv _=>by simp) (λv _ _=>by simp[f1 (k:=k-1) (by omega),bT]);rw[jP,show (L.all λ_=>true)=true from wU.mpr λ_ _=>rfl]at this;simpa using this
 have al:∀{M:Mem},zG M .all [.lst (L.map λv=>T.v (.bl (decide (v<n))))]=some (bT true):=λ{M}=>by
  rw[y6 (λv=>decide (v<n))];congr 2;rw[wU];exact λv hv=>uG (h v hv)
 have ty:=hI.ty;have z:pxs (glT gs) (Pk (glT gs) Tb.fns Cs (k-1)) [] b2 [some t,some (N n)] M=.ok (.rt (bT true),M):=by
  rw[b2]
  repeat' first|with_reducible (first|exact ty|exact s1|exact c|exact al|exact qS|exact qY|exact qU|assumption|apply qG|apply qx|apply zB|apply Qc|apply zm|apply cT|apply qN|apply A6|apply zm)|assumption|exact nF rfl|exact nT rfl|rfl
 exact qe t2 ⟨rfl,by decide⟩ (by omega) rfl rfl z (qA rfl)
theorem V5(a b:Nat):T.unds 0 (stT a b)=true:=Z6 0 [a,b]
noncomputable def spo(A:List Nat)(m:Nat):List Nat:=(List.range A.length).filter λi=>decide (m<A.getD i 0)
noncomputable def qD(A:List Nat):List Nat:=(List.range 6).flatMap (spo A)
theorem qEa{A:List Nat}{x:Nat}(h:x∈qD A):x<A.length:=by
 obtain⟨m,_,hx⟩:=List.mem_flatMap.mp h;exact wY.mp (vC.mp hx).1
def Ris(lo hi:Nat):List Nat->Prop
 | []=>True
 |x::L=>lo<=x/\x<hi/\Ris (x+1) hi L
theorem f3L(hk:2<=k){M:Mem}{d:jn}(hd:qh d M=true){t:T}:∀(L:List Nat) (lo n:Nat) (o:Option T),Ris lo n L->∃σ',zF d (.name 3) (pxs (glT gs) (Pk (glT gs) Tb.fns Cs k) [] qFX) (L.map N) [some t,some (N n),some (N lo),o] M=.ok (.nx σ',M)
 | [],lo,n,o,_=>⟨_,rfl⟩
 |x::L,lo,n,o,⟨h1,h2,h3⟩=>by
  obtain⟨σ',e⟩:=f3L hk hd (t:=t) L (x+1) n (some (N x)) h3;refine⟨σ',?_⟩;have a2:¬ (x<lo):=by omega
  have body:pxs (glT gs) (Pk (glT gs) Tb.fns Cs k) [] qFX [some t,some (N n),some (N lo),some (N x)] M=.ok (.nx [some t,some (N n),some (N (x+1)),some (N x)],M):=by
   rw[qFX];simp(disch:=omega) [f1,h2,a2]
  rw[List.map_cons,zF,show zL (.name 3) (N x) [some t,some (N n),some (N lo),o]=some [some t,some (N n),some (N lo),some (N x)] from rfl];dsimp only;rw[body,tD];dsimp only;rw[if_pos hd];exact e
theorem qHn(hk:3<=k){M:Mem}{t:T}{L:List Nat}{n:Nat}(hI:IsL M t L)(h:Ris 0 n L)(hf:t.lf=false):Pk (glT gs) Tb.fns Cs k 3 [t,N n] M=.ok (bT true,M):=by
 rw[zK t3 ⟨rfl,by decide⟩ (by omega),b3,show Cs.getD 3 []=[] from rfl];obtain⟨d,s1,_,s2⟩:=hI.src;obtain⟨σ',e⟩:=f3L (k:=k-1) (by omega) s2 (t:=t) L 0 n none h;simp[jI,hI.ty,s1,e,qA]
theorem f9r(hk:1<=k)(a b:Nat)(M:Mem):Pk (glT gs) Tb.fns Cs k 27 [N a,N b] M=.ok (bT (decide (a&&& b=b)),M):=by
 rw[zK t27 ⟨rfl,by decide⟩ (by omega),b27,show Cs.getD 27 []=[] from rfl];simp[X6,qA]
theorem S5{M:Mem}{t:T}{L:List Nat}(h:IsL M t L)(n:Nat):qd M .notin (N n) t=some (!decide (n∈L)):=by
 have a:qd M .notin (N n) t=qd M .notin (N n) (NL L):=by
  have d1:t.dct=none:=by
   cases t with
   |ob o=>have:=h.its;cases this
   |_=>rfl
  show (inT M (N n) t).map _=(inT M (N n) (NL L)).map _;unfold inT;rw[d1,show (NL L).dct=none from rfl,h.its];rfl
 rw[a,F6]
theorem qHp{M:Mem}{t:T}{L:List Nat}(h:IsL M t L)(n:Nat):qd M .inn (N n) t=some (decide (n∈L)):=by
 have:=S5 h n;have e:qd M .notin (N n) t=(qd M .inn (N n) t).map (!·):=rfl;rw[e]at this;cases hh:qd M .inn (N n) t with
 |none=>rw[hh]at this;cases this
 |some b=>
  rw[hh]at this;simp at this;rw[this]
theorem kr(hk:2<=k){M:Mem}{ta tk:T}{A K:List Nat}{n i:Nat}(ia:IsS M ta (A.map N))(ik:IsS M tk (K.map N))(hn:A.length=n)(hn5:n<=100)(h0:A[i]?=some 0)(hr:∀p,p<n->p&&& i=i->p∈K):Pk (glT gs) Tb.fns Cs k 29 [ta,tk,N i] M=.ok (bT true,M):=by
 have ln:=ia.isL.len;rw[hn]at ln;have rg:=zl (n:=n) (by omega);have c:=jf (c:=pec (glT gs) (Pk (glT gs) Tb.fns Cs (k-1)) (.cons (.call 27 (.cons (.var 0) (.cons (.var 1) .nil))) .nil)) (e:=pe (glT gs) (Pk (glT gs) Tb.fns Cs (k-1)) (.var 0)) (M:=M) (σ:=[some (N i)]) (o:=none) (its:=List.range n) (λp=>decide (p&&& i=i)) (λx=>x) (by simp[lim];omega) (λx _=>by simp[f9r (k:=k-1) (by omega)]) (λx _ _=>by simp);rw[vn]at c;have hS:∀p∈(List.range n).filter (λp=>decide (p&&& i=i)),p∈K:=λp hp=>hr p (wY.mp (vC.mp hp).1) (uI (vC.mp hp).2);have lS:((List.range n).filter λp=>decide (p&&& i=i)).length<=n:=wG (vL _ _) (by simp);generalize (List.range n).filter (λp=>decide (p&&& i=i))=S at *;have c2:=L1 (M:=M) (σ:=[some tk]) (c:=pec (glT gs) (Pk (glT gs) Tb.fns Cs (k-1)) .nil) (e:=pe (glT gs) (Pk (glT gs) Tb.fns Cs (k-1)) (.cmp .inn (.var 0) (.var 1))) (λ_=>true) (λp=>T.v (.bl (decide (p∈K)))) (λ_=>true) S [] true none (by simp[lim];omega) (λx _=>by simp) (λx _ _=>by
  have:=qHp ik.isL x;simp[this,bT])
 rw[jP,List.nil_append,show (S.all λ_=>true)=true from wU.mpr λ_ _=>rfl]at c2;have al:∀{M:Mem},zG M .all [.lst (S.map λp=>T.v (.bl (decide (p∈K))))]=some (bT true):=λ{M}=>by
  rw[y6 (λp=>decide (p∈K))];congr 2;rw[wU];exact λp hp=>uG (hS p hp)
 have i0:=ia.isL.idx h0;have n1:=ia.lf;have n2:=ik.lf;have sN:Zi M (NL S)=some (S.map N,[]):=rfl;generalize NL S=tS at *;generalize S.map N=SN at *;generalize (S.map λp=>T.v (.bl (decide (p∈K))))=SB at *;have e00:qd M .eq (N 0) (N 0)=some true:=rfl;have z:pxs (glT gs) (Pk (glT gs) Tb.fns Cs (k-1)) [] b29 [some ta,some tk,some (N i),none] M=.ok (.rt (bT true),M):=by
  rw[b29]
  repeat' first|with_reducible (first|exact ln|exact rg|exact c|exact i0|exact sN|exact c2|exact al|exact e00|exact qS|exact qY|exact zH|exact zo|exact ze|exact qU|exact isT|exact zk|assumption|apply qG|apply qm|apply qo|apply qx|apply zB|apply Qc|apply zm|apply jm|apply cT|apply qN|apply zm)|((with_reducible apply qu);exact cN rfl)|assumption|exact nF rfl|exact nT rfl|rfl
 exact qe t29 ⟨rfl,by decide⟩ (by omega) rfl rfl z (qA rfl)
structure Pn(s:Nat)(A K:List Nat):Prop where
 s1:1<=s
 s5:s<=5
 len:A.length=2 ^ s
 a7:∀x∈A,x<7
 ris:Ris 0 (2 ^ s) K
 zero:∀i∈K,A[i]?=some 0
 up:∀i∈K,∀p,p<2 ^ s->p&&& i=i->p∈K
theorem Y7{hi:Nat}:∀{L:List Nat}{lo:Nat},Ris lo hi L->L.length<=hi-lo
 | [],_,_=>vv _
 |x::r,lo,⟨h1,h2,h3⟩=>by have:=Y7 h3;rw[List.length_cons];omega
theorem qIK(hk:5<=k){s:Nat}{A K:List Nat}(h:Pn s A K){M:Mem}{ta tk:T}(ia:IsS M ta (A.map N))(ik:IsS M tk (K.map N)):Pk (glT gs) Tb.fns Cs k 28 [.tup [N s,ta,tk]] M=.ok (bT true,M):=by
 have n5:=p5 h.s5;have e5:=f6 (k:=k-1) (by omega) h.s1 h.s5 M;have e4:=f4 (k:=k-1) (by omega) h.s5 M;have e2:=qE4 (k:=k-1) (by omega) ia.isL h.a7 (by rw[h.len];omega);have ln:=ia.isL.len;rw[h.len]at ln;have e3:=qHn (k:=k-1) (by omega) ik.isL h.ris ik.lf;obtain⟨d,s1,_,s2⟩:=ik.isL.src;have kl:K.length<=100:=by have:=Y7 h.ris;omega
 have c:qI d (.name 0) (pec (glT gs) (Pk (glT gs) Tb.fns Cs (k-1)) .nil) (pe (glT gs) (Pk (glT gs) Tb.fns Cs (k-1)) (.call 29 (.cons (.idx (.var 1) (nE 1)) (.cons (.idx (.var 1) (nE 2)) (.cons (.var 0) .nil))))) (K.map N) [] true [none,some (.tup [N s,ta,tk])] M=.ok ((.lst (K.map λ_=>T.v (.bl true)),true),M):=by
  have:=Zq (d:=d) (c:=pec (glT gs) (Pk (glT gs) Tb.fns Cs (k-1)) .nil) (e:=pe (glT gs) (Pk (glT gs) Tb.fns Cs (k-1)) (.call 29 (.cons (.idx (.var 1) (nE 1)) (.cons (.idx (.var 1) (nE 2)) (.cons (.var 0) .nil))))) (M:=M) (σ:=[some (.tup [N s,ta,tk])]) (λ_=>true) (λ_=>T.v (.bl true)) (λ_=>true) K [] true none s2 (by simp only[vz,uA,lim];omega) (λv _=>by simp) (λv hv _=>by
   have e:=kr (k:=k-1) (by omega) ia ik h.len (by omega) (h.zero v hv) (h.up v hv);simp[e,bT])
  rw[jP,show (K.all λ_=>true)=true from wU.mpr λ_ _=>rfl]at this;simpa using this
 have al:∀{M:Mem},zG M .all [.lst (K.map λ_=>T.v (.bl true))]=some (bT true):=λ{M}=>by
  rw[y6 (λ_=>true),show (K.all λ_=>true)=true from wU.mpr λ_ _=>rfl]
 have n1:=ia.lf;have n2:=ik.lf;generalize (K.map λ_=>T.v (.bl true))=KB at *;generalize K.map N=KN at *;have ty:zX M (.tup [N s,ta,tk])=some "tuple":=rfl;have l3:zG M .len [.tup [N s,ta,tk]]=some (N 3,true):=by rw[U4];rfl
 have a67:qq M .add (N 6) (N 1)=some (N 7,true):=rfl;have nn:qd M .ne (N (2 ^ s)) (N (2 ^ s))=some false:=by rw[O8];simp
 have z:pxs (glT gs) (Pk (glT gs) Tb.fns Cs (k-1)) [] b28 [some (.tup [N s,ta,tk]),none] M=.ok (.rt (bT true),M):=by
  rw[b28]
  repeat' first|with_reducible (first|exact ty|exact l3|exact a67|exact nn|exact e5|exact e4|exact e2|exact ln|exact e3|exact s1|exact c|exact al|exact lk0 .. | exact lk1 .. | exact lk2 .. | exact qS|exact qY|exact ze|exact qU|exact isT|exact isF|exact jp|exact O8 .. | assumption|apply qG|apply qO|apply qm|apply zJ|apply qo|apply qx|apply zB|apply QG|apply Qc|apply O6|apply zm|apply cT|apply cF|apply f_0|apply jb|apply qN|apply A6|apply zm|apply K9)|((with_reducible apply qu);exact cN rfl)|assumption|exact nF rfl|exact nT rfl|rfl
 exact qe t28 ⟨rfl,by decide⟩ (by omega) rfl rfl z (qA rfl)
theorem qHw(hk:6<=k){s:Nat}{A K:List Nat}(h:Pn s A K){M:Mem}{ta tk:T}(ia:IsS M ta (A.map N))(ik:IsS M tk (K.map N)):Pk (glT gs) Tb.fns Cs k 30 [.tup [N s,ta,tk]] M=.ok ((.v .non,true),M):=by
 rw[zK t30 ⟨rfl,by decide⟩ (by omega),b30,show Cs.getD 30 []=[] from rfl];simp[qIK (k:=k-1) (by omega) h ia ik,Zy]
theorem qDF:∀(i:Nat) (L:List Nat),QQ i (L.map N)=(List.range L.length).map λj=>T.tup [N (i+j),N (L.getD j 0)]
 |i,[]=>rfl
 |i,x::L=>by
  rw[List.map_cons,QQ,qDF (i+1) L,List.length_cons,List.range_succ_eq_map,List.map_cons,wx];congr 1;refine vX λj _=>?_;show T.tup [N (i+1+j),N (L.getD j 0)]=T.tup [N (i+(j+1)),N ((x::L).getD (j+1) 0)];rw[show i+1+j=i+(j+1) by omega];simp
theorem qCU{M:Mem}{d:jn}(hd:qh d M=true){P:Nat->List T->Mem->PR (TB×Mem)}{m:Nat}(f:Nat->Nat):∀(js ys:List Nat) (o0 o1:Option T),ys.length+js.length<=1000 ->
  qI d (.tup [0,1]) (pec (glT gs) P (.cons (.cmp .gt (.var 1) (.var 2)) .nil)) (pe (glT gs) P (.var 0)) (js.map λj=>T.tup [N j,N (f j)]) (ys.map N) true [o0,o1,some (N m)] M=.ok ((NL (ys++js.filter λj=>decide (m<f j)),true),M)
 | [],ys,o0,o1,_=>by simp[qI,NL]
 |j::js,ys,o0,o1,hl=>by
  simp at hl;rw[List.map_cons,qI,show zL (.tup [0,1]) (.tup [N j,N (f j)]) [o0,o1,some (N m)]=some [some (N j),some (N (f j)),some (N m)] from rfl];dsimp only;have c1:pec (glT gs) P (.cons (.cmp .gt (.var 1) (.var 2)) .nil) [some (N j),some (N (f j)),some (N m)] M=.ok (decide (m<f j),M):=by simp
  have c2:pe (glT gs) P (.var 0) [some (N j),some (N (f j)),some (N m)] M=.ok ((N j,true),M):=by simp
  rw[c1,tD];dsimp only;by_cases h:m<f j
  ·rw[uG h,if_pos rfl,c2,tD];dsimp only;rw[if_pos ⟨by simp[lim];omega,hd⟩,show ys.map N++[N j]=(ys++[j]).map N by simp,vY,qCU hd f js (ys++[j]) _ _ (by simp;omega),vB (by simpa using h)];simp
  ·rw[uF h,if_neg (by decide),if_pos hd,qCU hd f js ys _ _ (by omega),vP (by simpa using h)]
theorem qGa{M:Mem}{n:Nat}{xs:List T}{L:List Nat}(h:M[n]?=some xs)(hl:xs.length+L.length<=1000):ZA .ext n [NL L] M=some ((.v .non,true),M.set n (xs++L.map N)):=by
 show (M[n]?).bind (λxs=>((NL L).mu M).bind λys=>if (NL L).isC n=false/\xs.length+ys.length<=lim then _ else _)=_;rw[h,Option.bind_some];show (some (L.map N)).bind _=_;rw[Option.bind_some,if_pos ⟨rfl,by rw[wZ];exact wG hl (by decide)⟩]
theorem qHO{M:Mem}{s:Nat}{ta tk:T}{A:List Nat}(ia:IsS M ta (A.map N))(hA:A.length<=32):∀(ms:List Nat) (W:List Nat) (o:Option T),W.length+ms.length*32<=900->∃o',zF [] (.name 2) (pxs (glT gs) (Pk (glT gs) Tb.fns Cs k) [1] qAG) (ms.map N) [some (.tup [N s,ta,tk]),some (.cell M.length),o] (M++[W.map N])=.ok (.nx [some (.tup [N s,ta,tk]),some (.cell M.length),o'],M++[(W++ms.flatMap (spo A)).map N])
 | [],W,o,_=>⟨o,by simp[zF]⟩
 |m::ms,W,o,hl=>by
  have ls:(spo A m).length<=32:=wG (vL _ _) (by simp;exact hA);simp at hl;obtain⟨o',e⟩:=qHO ia hA (s:=s) (tk:=tk) ms (W++spo A m) (some (N m)) (by simp;omega);refine⟨o',?_⟩;obtain⟨d,_,s1,s2⟩:=(ia.app (C:=[W.map N])).isL.src;have en:=qDF 0 A;simp only[uA]at en;have c:=qCU (M:=M++[W.map N]) s2 (P:=Pk (glT gs) Tb.fns Cs k) (m:=m) (λj=>A.getD j 0) (List.range A.length) [] none none (by simp;omega);rw[List.map_nil,List.nil_append,<-en]at c;have c:qI d (.tup [0,1]) (pec (glT gs) (Pk (glT gs) Tb.fns Cs k) (.cons (.cmp .gt (.var 1) (.var 2)) .nil)) (pe (glT gs) (Pk (glT gs) Tb.fns Cs k) (.var 0)) (QQ 0 (A.map N)) [] true [none,none,some (N m)] (M++[W.map N])=.ok ((NL (spo A m),true),M++[W.map N]):=c;have mt:ZA .ext M.length [NL (spo A m)] (M++[W.map N])=some ((.v .non,true),M++[(W++spo A m).map N]):=by
   rw[qGa (xs:=W.map N) (by simp) (by simp;omega),wt _ _ (by omega)];simp
  have nf:=ia.lf;have st:∀a b c z:Option T,[a,b,c].set 2 z=[a,b,z]:=λ_ _ _ _=>rfl;have body:pxs (glT gs) (Pk (glT gs) Tb.fns Cs k) [1] qAG [some (.tup [N s,ta,tk]),some (.cell M.length),some (N m)] (M++[W.map N])=.ok (.nx [some (.tup [N s,ta,tk]),some (.cell M.length),some (N m)],M++[(W++spo A m).map N]):=by
   clear e en;generalize NL (spo A m)=tq at *;generalize A.map N=AN at *;generalize M++[(W++spo A m).map N]=M2 at *;generalize M++[W.map N]=M1 at *;rw[qAG];simp[s1,c,-Qi,mt]
  rw[List.map_cons,zA,st,body,tD,vo,<-wV];exact e
theorem qFp(hk:1<=k){M:Mem}(hW:WfM M){s:Nat}{ta tk:T}{A:List Nat}(ia:IsS M ta (A.map N))(hA:A.length<=32):Pk (glT gs) Tb.fns Cs k 31 [.tup [N s,ta,tk]] M=.ok ((NL (qD A),true),M):=by
 rw[zK t31 ⟨rfl,by decide⟩ (by omega),show Cs.getD 31 []=[1] from rfl];obtain⟨o',e⟩:=qHO (k:=k-1) (s:=s) (tk:=tk) ia hA (List.range 6) [] none (by simp);have rg:=zl (n:=6) (by decide);have th:thaw M.length (.lst [])=(.cell M.length,[[]]):=rfl;rw[List.nil_append,List.map_nil]at e;have ex:pxs (glT gs) (Pk (glT gs) Tb.fns Cs (k-1)) [1] b31 ([T.tup [N s,ta,tk]].map some++List.replicate (3-1) none) M=.ok (.rt (.cell M.length,false),M++[(qD A).map N]):=by
  unfold qD;generalize (List.range 6).map N=its at *;generalize ((List.range 6).flatMap (spo A)).map N=fm at *;rw[b31];simp[th,rg,e,lim]
 rw[ex];exact Zn rfl hW (by simp) (by simp) (qB6 _) false
theorem qIN{M:Mem}(A B:List Nat)(h:A.length+B.length<=1000):qq M .add (NL A) (NL B)=some (NL (A++B),true):=by
 unfold NL;rw[X3 (by simp[lim];omega),<-wy];exact congrArg some (qG1 _)
theorem P1{i:Tg}{b:TS->Mem->RSt}{x:T}{r:List T}{σ σ1:TS}{M:Mem}(h:zL i x σ=some σ1):zF [] i b (x::r) σ M=(b σ1 M).bind λp=>match p.1 with
   | .nx σ2=>zF [] i b r σ2 p.2
   | .ct σ2=>zF [] i b r σ2 p.2
   | .bk σ2=>.ok (.nx σ2,p.2)
   | .rt t=>.ok (.rt t,p.2):=by
 rw[zF,h];rfl
theorem spL{P:Nat->List T->Mem->PR (TB×Mem)}{M:Mem}{s:Nat}{ta tk:T}{A:List Nat}(ia:IsS M ta (A.map N))(hA:A.length<=32):∀(ms:List Nat) (W:List Nat) (o:Option T),W.length+ms.length*32<=900->∃o',zF [] (.name 2) (pxs (glT gs) P [] v7) (ms.map N) [some (.tup [N s,ta,tk]),some (NL W),o] M=.ok (.nx [some (.tup [N s,ta,tk]),some (NL (W++ms.flatMap (spo A))),o'],M)
 | [],W,o,_=>⟨o,by simp[zF]⟩
 |m::ms,W,o,hl=>by
  have ls:(spo A m).length<=32:=wG (vL _ _) (by simp;exact hA);simp at hl;obtain⟨o',e⟩:=spL (P:=P) ia hA (s:=s) (tk:=tk) ms (W++spo A m) (some (N m)) (by simp;omega);refine⟨o',?_⟩;have ln:=ia.isL.len;have rg:=zl (n:=A.length) (by omega);have c:=jf (c:=pec (glT gs) P (.cons (.cmp .gt (.idx (.idx (.var 1) (nE 1)) (.var 0)) (.var 2)) .nil)) (e:=pe (glT gs) P (.var 0)) (M:=M) (σ:=[some (.tup [N s,ta,tk]),some (N m)]) (o:=none) (its:=List.range A.length) (λi=>decide (m<A.getD i 0)) (λi=>i) (by simp[lim];omega) (λx hx=>by
   have ix:=ia.isL.idx (getD_some (wY.mp hx));have nf:=ia.lf;simp[ix,-qDd]) (λx _ _=>by simp)
  rw[vn]at c;have c:qI [] (.name 0) (pec (glT gs) P (.cons (.cmp .gt (.idx (.idx (.var 1) (nE 1)) (.var 0)) (.var 2)) .nil)) (pe (glT gs) P (.var 0)) ((List.range A.length).map N) [] true [none,some (.tup [N s,ta,tk]),some (N m)] M=.ok ((NL (spo A m),true),M):=c;have ad:=qIN (M:=M) W (spo A m) (by omega);have nf:=ia.lf;have st:∀a b c z:Option T,[a,b,c].set 2 z=[a,b,z]:=λ_ _ _ _=>rfl;have body:pxs (glT gs) P [] v7 [some (.tup [N s,ta,tk]),some (NL W),some (N m)] M=.ok (.nx [some (.tup [N s,ta,tk]),some (NL (W++spo A m)),some (N m)],M):=by
   clear e
   rw[v7]
   repeat' first|with_reducible (first|exact ln|exact rg|exact c|exact ad|exact lk1 .. | exact qS|exact qY|exact zH|exact ze|exact qU|exact QJ|exact jp|exact C3 .. | assumption|apply qG|apply qm|apply zJ|apply qx|apply zB|apply jm|apply K9)|((with_reducible apply qu);exact cN rfl)|assumption|rfl
  rw[List.map_cons,zA,st,body,tD,vo,<-wV];exact e
theorem qBH(hk:1<=k){M:Mem}{s:Nat}{ta tk:T}{A:List Nat}(ia:IsS M ta (A.map N))(hA:A.length<=32):Pk (glT gs) Tb.fns Cs k 45 [.tup [N s,ta,tk]] M=.ok ((NL (qD A),false),M):=by
 obtain⟨o',e⟩:=spL (P:=Pk (glT gs) Tb.fns Cs (k-1)) (s:=s) (tk:=tk) ia hA (List.range 6) [] none (by simp);have rg:=zl (n:=6) (by decide);rw[List.nil_append]at e;have e:zF [] (.name 2) (pxs (glT gs) (Pk (glT gs) Tb.fns Cs (k-1)) [] v7) ((List.range 6).map N) [some (.tup [N s,ta,tk]),some (.lst []),none] M=.ok (.nx [some (.tup [N s,ta,tk]),some (NL (qD A)),o'],M):=e;have nf:=qGP (qD A);generalize (List.range 6).map N=its at *;generalize NL (qD A)=sp at *;have z:pxs (glT gs) (Pk (glT gs) Tb.fns Cs (k-1)) [] b45 [some (.tup [N s,ta,tk]),none,none] M=.ok (.rt (sp,false),M):=by
  rw[b45]
  repeat' first|with_reducible (first|exact rg|exact e|exact qY|exact ze|exact qU|exact ll0|exact jp|assumption|apply jV|apply jm|apply ZV|apply qN)|((with_reducible apply qu);exact cN rfl)|assumption|rw[nf]|rfl
 exact qe t45 ⟨rfl,by decide⟩ (by omega) rfl rfl z (qA rfl)
theorem Zg(q:Nat->Bool):∀(n lo:Nat),Ris lo (lo+n) ((List.range' lo n).filter q)
 | 0,lo=>trivial
 |n+1,lo=>by
  have ih:=Zg q n (lo+1);rw[vQ];have e:lo+1+n=lo+(n+1):=by omega
  rw[e]at ih;cases h:q lo with
  |true=>rw[vB h];exact⟨wF _,by omega,ih⟩
  |false=>
   rw[vP (by rw[h];decide)];have mono:∀(L:List Nat) (a b hi:Nat),a<=b->Ris b hi L->Ris a hi L:=λL a b hi hab h=>by
    cases L with
    |nil=>trivial
    |cons x L=>exact⟨wG hab h.1,h.2.1,h.2.2⟩
   exact mono _ _ _ _ (by omega) ih
theorem N5{β:Type}(g:β->T){gl:List T}{P:Nat->List T->Mem->PR (TB×Mem)}{e:TS->Mem->PR (TB×Mem)}{σ:TS}{I:Mem->Prop}{Rl:Nat->β->Prop}:∀(its:List Nat) (ys:List T) (b:Bool) (o:Option T) (M:Mem),ys.length+its.length<=lim->I M ->
  (∀x∈its,∀M,I M->∃y M',e (some (N x)::σ) M=.ok ((g y,true),M')/\I M'/\Rl x y) ->
  ∃(K:List β) (M':Mem),qI [] (.name 0) (pec gl P .nil) e (its.map N) ys b (o::σ) M=.ok ((.lst (ys++K.map g),b),M')/\I M'/\K.length=its.length/\∀(i x:Nat) (y:β),its[i]?=some x->K[i]?=some y->Rl x y
 | [],ys,b,o,M,_,hI,_=>⟨[],M,by simp[qI],hI,rfl,λi x y h=>by simp at h⟩
 |x::r,ys,b,o,M,hl,hI,he=>by
  obtain⟨y,M1,e1,i1,r1⟩:=he x (wM ..) M hI;rw[List.map_cons];unfold qI;rw[show zL (.name 0) (N x) (o::σ)=some (some (N x)::σ) from rfl];dsimp only;rw[Zw,tD];dsimp only;rw[if_pos rfl,e1,tD];dsimp only;rw[if_pos ⟨by simp at hl ⊢;omega,rfl⟩];obtain⟨K,M2,e2,i2,l2,r2⟩:=N5 g (gl:=gl) (P:=P) (I:=I) (Rl:=Rl) r (ys++[g y]) b (some (N x)) M1 (by simp at hl ⊢;omega) i1 (λz hz=>he z (wI _ hz));refine⟨y::K,M2,?_,i2,by simp[l2],λi x' y' h1 h2=>?_⟩
  ·rw[vY,e2];simp
  ·cases i with
   |zero=>cases h1;cases h2;exact r1
   |succ i=>exact r2 i x' y' h1 h2
theorem S4{d:jn}{c:TS->Mem->PR (Bool×Mem)}{e:TS->Mem->PR (TB×Mem)}{M:Mem}{σ:TS}(hd:qh d M=true):∀(its:List T) (ys:List T) (b:Bool) (o:Option T),
  (∀x∈its,c (some x::σ) M=.ok (false,M)) ->
  qI d (.name 0) c e its ys b (o::σ) M=.ok ((.lst ys,b),M)
 | [],ys,b,o,_=>by simp[qI]
 |x::r,ys,b,o,he=>by
  rw[qI,show zL (.name 0) x (o::σ)=some (some x::σ) from rfl];dsimp only;rw[he x (by simp),tD];dsimp only;rw[if_neg (by decide),if_pos hd];exact S4 hd r ys b (some x) λy hy=>he y (by simp[hy])
theorem Kept.refl{n:Nat}{M:Mem}(g:qAi M n):Kept n M M:=⟨g,rfl,λ_ _=>rfl⟩
theorem qB3(p i:Nat)(h:p&&& i=i):i<=p:=by rw[<-h];exact Nat.and_le_left
theorem qGe(hk:2<=k){M:Mem}{n:Nat}(g:qAi M n):∃s A K f M',Pk (glT gs) Tb.fns Cs k 44 [.cell n] M=.ok ((.tup [N s,NL A,NL K],f),M')/\Kept n M M'/\Pn s A K:=by
 obtain⟨d,M1,e1,hd,k1⟩:=out (k:=k-1) (by omega) g (m:=5) (by omega);obtain⟨w,M2,e2,hw,k2⟩:=out (k:=k-1) (by omega) k1.good (m:=3) (by omega);have pe5:2 ^ (1+d)<=32:=wq (n:=2) (by decide) (show 1+d<=5 by omega);have pp:0<2 ^ (1+d):=Nat.two_pow_pos _;obtain⟨x,M3,e3,hx,k3⟩:=out (k:=k-1) (by omega) k2.good (m:=2 ^ (1+d)) (by omega);obtain⟨z,M4,e4,hz,k4⟩:=out (k:=k-1) (by omega) k3.good (m:=2) (by omega);have sh:∀{M:Mem},qq M .shl (N 1) (N (1+d))=some (N (2 ^ (1+d)),true):=λ{M}=>by rw[qDQ (by omega),Nat.one_mul]
 obtain⟨s,hs⟩:∃s,s=1+d:=⟨_,rfl⟩
 rw[<-hs]at sh pe5 pp hx e3;have rg:=zl (n:=2 ^ s) (by omega);have c:=jf (c:=pec (glT gs) (Pk (glT gs) Tb.fns Cs (k-1)) (.cons (.or (.and (.cmp .eq (.var 2) (nE 1)) (.cmp .ge (.var 0) (.var 1))) (.and (.cmp .eq (.var 2) (nE 2)) (.cmp .eq (.bin .band (.var 0) (.var 1)) (.var 1)))) .nil)) (e:=pe (glT gs) (Pk (glT gs) Tb.fns Cs (k-1)) (.var 0)) (M:=M3) (σ:=[some (N x),some (N w)]) (o:=none) (its:=List.range (2 ^ s)) (λt=>(decide (w=1)&&decide (x<=t))||(decide (w=2)&&decide (t&&& x=x))) (λt=>t) (by simp[lim];omega) (λt _=>by
  have ge:qd M3 .ge (N t) (N x)=some (decide (x<=t)):=qDp ..;by_cases h1:w=1
  ·have q1:qd M3 .eq (N w) (N 1)=some true:=by rw[jM,uG h1]
   have q2:qd M3 .eq (N w) (N 2)=some false:=by rw[jM,uF (by omega)]
   by_cases h2:x<=t
   ·rw[uG h2]at ge;rw[show ((decide (w=1)&&decide (x<=t))||(decide (w=2)&&decide (t&&& x=x)))=true by simp[h1,h2],Qi];refine(congrArg pB (?_:_=.ok (bT true,M3))).trans (l6 _)
    change pe _ _ _ [some _,some _,some _] _=_
    repeat' first|with_reducible (first|exact q1|exact q2|exact ge|exact qS|exact qY|exact zH|exact ze|exact jM .. | apply qo|apply zJ|apply Qc|apply O6|apply cT|apply cF)|rfl
   ·rw[uF h2]at ge;rw[show ((decide (w=1)&&decide (x<=t))||(decide (w=2)&&decide (t&&& x=x)))=false by simp[h1,h2],Qi];refine(congrArg pB (?_:_=.ok (bT false,M3))).trans (l6 _)
    change pe _ _ _ [some _,some _,some _] _=_
    repeat' first|with_reducible (first|exact q1|exact q2|exact ge|exact qS|exact qY|exact zH|exact ze|exact jM .. | apply qo|apply zJ|apply Qc|apply O6|apply cT|apply cF)|rfl
  ·have q1:qd M3 .eq (N w) (N 1)=some false:=by rw[jM,uF h1]
   have bd:qq M3 .band (N t) (N x)=some (N (t&&& x),true):=X6 ..;rw[show ((decide (w=1)&&decide (x<=t))||(decide (w=2)&&decide (t&&& x=x)))=(decide (w=2)&&decide (t&&& x=x)) by simp[h1],Qi];by_cases h2:w=2
   ·have q2:qd M3 .eq (N w) (N 2)=some true:=by rw[jM,uG h2]
    rw[uG h2,Bool.true_and];refine(congrArg pB (?_:_=.ok (bT (decide (t&&& x=x)),M3))).trans (l6 _)
    change pe _ _ _ [some _,some _,some _] _=_
    repeat' first|with_reducible (first|exact q1|exact q2|exact bd|exact qS|exact qY|exact zH|exact ze|exact jM .. | apply qo|apply zJ|apply Qc|apply O6|apply cT|apply cF)|rfl
   ·have q2:qd M3 .eq (N w) (N 2)=some false:=by rw[jM,uF h2]
    rw[uF h2,Bool.false_and];refine(congrArg pB (?_:_=.ok (bT false,M3))).trans (l6 _)
    change pe _ _ _ [some _,some _,some _] _=_
    repeat' first|with_reducible (first|exact q1|exact q2|exact qS|exact qY|exact zH|exact ze|exact jM .. | apply qo|apply zJ|apply Qc|apply O6|apply cT|apply cF)|rfl) (λt _ _=>by simp)
 rw[vn]at c;obtain⟨q,hq⟩:∃q:Nat->Bool,q=λt=>(decide (w=1)&&decide (x<=t))||(decide (w=2)&&decide (t&&& x=x)):=⟨_,rfl⟩
 rw[<-hq]at c;obtain⟨K,hK⟩:∃K,K=(List.range (2 ^ s)).filter q:=⟨_,rfl⟩
 rw[<-hK]at c;obtain⟨mo,hm,hm7⟩:∃mo,[N 2,N 7][z]?=some (N mo)/\(0<mo/\mo<=7):=by
  have:z=0\/z=1:=by omega
  rcases this with rfl|rfl
  ·exact⟨2,rfl,by decide⟩
  ·exact⟨7,rfl,by decide⟩
 obtain⟨A,M5,e5,k5,l5,r5⟩:=N5 N (gl:=glT gs) (P:=Pk (glT gs) Tb.fns Cs (k-1)) (e:=pe (glT gs) (Pk (glT gs) Tb.fns Cs (k-1)) (.bin .mul (.call 36 (.cons (.var 1) (.cons (.var 3) .nil))) (.blt .int (.cons (.cmp .notin (.var 0) (.var 2)) .nil)))) (σ:=[some (.cell n),some (NL K),some (N mo)]) (I:=Kept n M4) (Rl:=λt y=>y<7/\(t∈K->y=0)) (List.range (2 ^ s)) [] true none M4 (by simp[lim];omega) (Kept.refl k4.good) (λt _ M' hI=>by
  obtain⟨y,M6,e6,hy,k6⟩:=out (k:=k-1) (by omega) hI.good (m:=mo) (by omega);have ml:∀{M:Mem}(v:Nat),qq M .mul (N y) (N v)=some (N (y*v),true):=λ{M} v=>Jm (.inl (by omega));have ni:∀{M:Mem},qd M .notin (N t) (NL K)=some (!decide (t∈K)):=λ{M}=>F6 t K;by_cases ht:t∈K
  ·rw[uG ht]at ni;exact⟨y*0,M6,by simp[e6,ml,ni],hI.trans k6,by simp⟩
  ·rw[uF ht]at ni;exact⟨y*1,M6,by simp[e6,ml,ni],hI.trans k6,by omega,λz=>absurd z ht⟩)
 rw[List.nil_append]at e5;have e5:qI _ _ _ _ _ _ _ _ _=.ok ((NL A,true),M5):=e5;rw[vf]at l5;have memK:∀t,t∈K↔t<2 ^ s/\q t=true:=λt=>by rw[hK,vC,wY]
 have m0:M5.length=M.length:=((((k1.trans k2).trans k3).trans k4).trans k5).len;have ad1:∀{M:Mem},qq M .add (N 1) (N d)=some (N s,true):=λ{M}=>by rw[hs];exact zZ _ _
 have z:∃f,pxs (glT gs) (Pk (glT gs) Tb.fns Cs (k-1)) [] b44 [some (.cell n),none,none,none,none,none,none] M=.ok (.rt (.tup [N s,NL A,NL K],f),M5):=by
  clear r5 memK hq hK;exact⟨_,by
   rw[b44]
   repeat' first|with_reducible (first|exact e1|exact ad1|exact sh|exact e2|exact e3|exact rg|exact c|exact e4|exact Je hm|exact e5|exact qS|exact qY|exact zH|exact zo|exact C4|exact ze|exact qU|exact ll2|exact ll3|exact jp|exact zP|exact zk|exact Jo|exact JZ|exact qAf|exact zZ .. | exact qDp .. | exact jM .. | assumption|apply qG|apply qO|apply qm|apply zJ|apply jV|apply ZG|apply zB|apply jm|apply qDS|apply Je)|((with_reducible apply qu);exact cN rfl)|assumption|rfl⟩
 obtain⟨f,z⟩:=z;refine⟨s,A,K,f,M5,qe t44 ⟨rfl,by decide⟩ (by omega) rfl rfl z (qA m0),(((k1.trans k2).trans k3).trans k4).trans k5,⟨by omega,by omega,l5,λy hy=>?_,?_,λi hi=>?_,λi hi p hp hpi=>?_⟩⟩
 ·obtain⟨i,hi,rfl⟩:=vw.mp hy;exact(r5 i i _ (by rw[vO (by omega)]) (wE hi)).1
 ·rw[hK,wz];have:=Zg q (2 ^ s) 0
  rwa [uA]at this
 ·have hi2:=((memK i).mp hi).1;have:=(r5 i i A[i] (by rw[vO (by omega)]) (wE (by omega))).2 hi;rw[wE (show i<A.length by omega),this]
 ·refine(memK p).mpr ⟨hp,?_⟩;have h2:=((memK i).mp hi).2;rw[hq]at h2 ⊢;simp only[vT,wC,uH]at h2 ⊢;rcases h2 with⟨a,b⟩|⟨a,b⟩
  ·exact .inl ⟨a,wG b (qB3 p i hpi)⟩
  ·refine .inr ⟨a,?_⟩;rw[<-b,<-Nat.and_assoc,hpi]
end
end _M
namespace _M
open PySem PySem.Spec _P
open _L (V)
open Fr (U Dv sh wor pr)
noncomputable abbrev Q(a:Int×Int):T:=.tup [I a.1,I a.2]
theorem qBO{c:TS->Mem->PR (Bool×Mem)}{b:TS->Mem->RSt}{S:Nat->Nat->TS->Prop}{M:Mem}(hc:∀x y σ,S x y σ->c σ M=.ok (decide (y≠0),M))(hb:∀x y σ,S x y σ->0<y->∃σ',b σ M=.ok (.nx σ',M)/\S y (x % y) σ'):
  ∀(n f x y:Nat) (σ:TS),S x y σ->y<2 ^ n->2*n+1<=f->∃σ',zR c b f σ M=.ok (.nx σ',M)/\S (Nat.gcd x y) 0 σ':=by
 have z:∀(f x:Nat) (σ:TS),S x 0 σ->1<=f->zR c b f σ M=.ok (.nx σ,M):=λf x σ s hf=>by
  obtain⟨f,rfl⟩:∃g,f=g+1:=⟨f-1,by omega⟩
  unfold zR;rw[hc x 0 σ s];rfl
 have st:∀(f x y:Nat) (σ:TS),S x y σ->0<y->∃σ',zR c b (f+1) σ M=zR c b f σ' M/\S y (x % y) σ':=λf x y σ s hy=>by
  obtain⟨σ',e,s'⟩:=hb x y σ s hy;refine⟨σ',?_,s'⟩;rw[zR,hc x y σ s,tD];dsimp only;rw[if_pos (by simp;omega),e];rfl
 intro n
 induction n with
 |zero=>
  intro f x y σ s hy hf;have:y=0:=by simpa using hy
  subst this;exact⟨σ,z f x σ s (by omega),by rw[Nat.gcd_zero_right];exact s⟩
 |succ n ih=>
  intro f x y σ s hy hf;rcases vc y with rfl|hp
  ·exact⟨σ,z f x σ s (by omega),by rw[Nat.gcd_zero_right];exact s⟩
  ·obtain⟨f,rfl⟩:∃g,f=g+2:=⟨f-2,by omega⟩
   obtain⟨σ1,e1,s1⟩:=st (f+1) x y σ s hp;have g1:Nat.gcd x y=Nat.gcd y (x % y):=by rw[Nat.gcd_comm,Nat.gcd_rec,Nat.gcd_comm]
   rcases vc (x % y) with h0|hp1
   ·rw[h0]at s1;exact⟨σ1,by rw[e1];exact z _ _ _ s1 (by omega),by rw[g1,h0,Nat.gcd_zero_right];exact s1⟩
   ·obtain⟨σ2,e2,s2⟩:=st f y (x % y) σ1 s1 hp1;have g2:Nat.gcd y (x % y)=Nat.gcd (x % y) (y % (x % y)):=by rw[Nat.gcd_comm y,Nat.gcd_rec,Nat.gcd_comm]
    have l1:x % y<y:=vd _ hp;have l2:y % (x % y)<x % y:=vd _ hp1;have l3:y % (x % y)+x % y<=y:=by
     have:=Nat.div_add_mod y (x % y);have d1:1<=y / (x % y):=(Nat.le_div_iff_mul_le hp1).mpr (by omega);have:=Nat.mul_le_mul_left (x % y) d1;omega
    obtain⟨σ3,e3,s3⟩:=ih f (x % y) (y % (x % y)) σ2 s2 (by rw[uB]at hy;omega) (by omega);exact⟨σ3,by rw[e1,e2,e3],by rw[g1,g2];exact s3⟩
def Sm(n:Nat)(x:Int):Prop:=x.natAbs<2 ^ n
theorem Sm.md{n:Nat}{x:Int}(h:Sm n x)(hn:n<=8000):_P.mid x=true:=by
 unfold _P.mid;rw[uH];rcases vc x.natAbs with z|z
 ·rw[z];decide
 ·have:=(Nat.log2_lt (by omega)).mpr h;omega
theorem Sm.mul{n m:Nat}{x y:Int}(h:Sm n x)(g:Sm m y):Sm (n+m) (x*y):=by
 unfold Sm at *;rw[Int.natAbs_mul,Nat.pow_add];exact Nat.mul_lt_mul'' h g
theorem Sm.mono{n m:Nat}{x:Int}(h:Sm n x)(l:n<=m):Sm m x:=wH h (wq (by decide) l)
theorem Sm.add{n:Nat}{x y:Int}(h:Sm n x)(g:Sm n y):Sm (n+1) (x+y):=by
 unfold Sm at *;have:=Int.natAbs_add_le x y;rw[uB];omega
theorem Sm.sub{n:Nat}{x y:Int}(h:Sm n x)(g:Sm n y):Sm (n+1) (x-y):=by
 unfold Sm at *;have:=Int.natAbs_sub_le x y;rw[uB];omega
theorem Sm.div{n:Nat}{x y:Int}(h:Sm n x):Sm n (x / (y.natAbs:Int)):=by
 unfold Sm at *;have:=Int.natAbs_ediv_le_natAbs x (y.natAbs:Int);omega
structure SmQ(n:Nat)(a:Int×Int):Prop where
 top:Sm n a.1
 bot:Sm n a.2
theorem SmQ.red{n:Nat}{t b:Int}(h:Sm n t)(g:Sm n b):SmQ n (Fr.red t b):=by
 have e:(Int.gcd t b:Int)=(((Int.gcd t b:Int)).natAbs:Int):=rfl;refine⟨?_,?_⟩
 ·unfold Fr.red;rw[e];exact h.div
 ·unfold Fr.red;rw[e];exact g.div
theorem SmQ.mono{n m:Nat}{a:Int×Int}(h:SmQ n a)(l:n<=m):SmQ m a:=⟨h.top.mono l,h.bot.mono l⟩
theorem qr{M:Mem}{n:Nat}{x y:Int}(h:Sm n x)(g:Sm n y)(hn:n<=8000):qq M .mul (I x) (I y)=some (I (x*y),true):=by
 show (if jy x||jy y||(mid x&&mid y) then _ else _)=_;rw[h.md hn,g.md hn,if_pos (by simp)];rfl
theorem Qg{M:Mem}{n:Nat}{x y:Int}(g:Sm n y)(hn:n<=8000)(hy:0<y):qq M .fdiv (I x) (I y)=some (I (x / y),true):=by
 show (if 0<y/\(y<1073741824\/mid y=true) then _ else _)=_;rw[if_pos ⟨hy,.inr (g.md hn)⟩];rfl
section
variable{k:Nat}
theorem f10(hk:1<=k){x y:Nat}(hy:y<2 ^ 4100)(M:Mem):Pk (glT gs) Tb.fns Cs k 10 [N x,N y] M=.ok ((N (Nat.gcd x y),true),M):=by
 rw[zK t10 ⟨rfl,by decide⟩ hk,b10,show Cs.getD 10 []=[] from rfl];obtain⟨σ',e,o,rfl⟩:=qBO (c:=λσ M=>pB (pe (glT gs) (Pk (glT gs) Tb.fns Cs (k-1)) (.cmp .ne (.var 1) (nE 0)) σ M)) (b:=pxs (glT gs) (Pk (glT gs) Tb.fns Cs (k-1)) [] qBm) (M:=M) (S:=λx y σ=>∃o,σ=[some (N x),some (N y),o]) (λx y σ s=>by
  obtain⟨o,rfl⟩:=s;simp) (λx y σ s hp=>by
  obtain⟨o,rfl⟩:=s;refine⟨[some (N y),some (N (x % y)),some (N (x % y))],?_,_,rfl⟩;rw[qBm];simp(disch:=omega) [jz]) 4100 qAw x y [some (N x),some (N y),none] ⟨none,rfl⟩ hy (by decide)
 rw[ql,J4];show QY _ (PR.bind (zR _ _ qAw [some (N x),some (N y),none] M) _)=_;rw[e];simp[qA]
theorem u7{M:Mem}(x:Int):zG M .abs [I x]=some (N x.natAbs,true):=by
 rw[qGR];unfold iT N;rw[show (if x<0 then -x else x)=(x.natAbs:Int) by split<;>omega]
theorem f9(hk:2<=k){t b:Int}(hb:0<b)(sb:Sm 4100 b)(M:Mem):Pk (glT gs) Tb.fns Cs k 9 [I t,I b] M=.ok ((Q (Fr.red t b),true),M):=by
 have g:=Fr.gpos (t:=t) hb;have sg:Sm 4100 (Int.gcd t b:Int):=by
  have:Int.gcd t b<=b.natAbs:=Nat.le_of_dvd (by omega) (Nat.gcd_dvd_right _ _);unfold Sm at *;rw[Int.natAbs_natCast];exact wk this sb
 have e2:=f10 (k:=k-1) (by omega) (x:=t.natAbs) sb M;rw[show Nat.gcd t.natAbs b.natAbs=Int.gcd t b from rfl]at e2;have q1:=λ(M:Mem)=>Qg (M:=M) (x:=t) sg (by decide) g;have q2:=λ(M:Mem)=>Qg (M:=M) (x:=b) sg (by decide) g;have c1:∀{M:Mem},qd M .eq (I b) (N 0)=some false:=λ{M}=>by rw[show N 0=I 0 from rfl,qEH,uF (by omega)]
 have c2:∀{M:Mem},qd M .lt (I b) (N 0)=some false:=λ{M}=>by rw[show N 0=I 0 from rfl,qAU,uF (by omega)]
 have hN:N (Int.gcd t b)=I (Int.gcd t b:Int):=rfl;have w1:=f0 (k:=k-1) (by omega) t M;have w2:=f0 (k:=k-1) (by omega) b M;have a1:=u7 (M:=M) t;have a2:=u7 (M:=M) b;rw[hN]at e2;have q1:=q1 M;have q2:=q2 M;have z:pxs (glT gs) (Pk (glT gs) Tb.fns Cs (k-1)) [] b9 [some (I t),some (I b),none] M=.ok (.rt (Q (Fr.red t b),true),M):=by
  rw[b9]
  repeat' first|with_reducible (first|exact c1|exact c2|exact w1|exact w2|exact a1|exact a2|exact e2|exact q1|exact q2|exact qS|exact qY|exact zH|exact ze|exact qU|exact isF|exact ll2|exact zP|assumption|apply qG|apply qO|apply zJ|apply qo|apply qx|apply ZG|apply QG|apply O6|apply cF|apply f_0|apply jb|apply qN)|((with_reducible apply qu);exact cN rfl)|assumption|exact nF rfl|exact nT rfl|rfl
 exact qe t9 ⟨rfl,by decide⟩ (by omega) rfl rfl z (qA rfl)
theorem f38(hk:1<=k){t b:Int}(hb:0<b)(sb:Sm 4100 b)(M:Mem):Pk (glT gs) Tb.fns Cs k 38 [I t,I b] M=.ok ((Q (Fr.red t b),true),M):=by
 have g:=Fr.gpos (t:=t) hb;have sg:Sm 4100 (Int.gcd t b:Int):=by
  have:Int.gcd t b<=b.natAbs:=Nat.le_of_dvd (by omega) (Nat.gcd_dvd_right _ _);unfold Sm at *;rw[Int.natAbs_natCast];exact wk this sb
 have q1:=λ(M:Mem)=>Qg (M:=M) (x:=t) sg (by decide) g;have q2:=λ(M:Mem)=>Qg (M:=M) (x:=b) sg (by decide) g;have hbN:I b=N b.natAbs:=by unfold N;rw[show (b.natAbs:Int)=b by omega]
 obtain⟨σ',e,s'⟩:=qBO (c:=λσ M=>pB (pe (glT gs) (Pk (glT gs) Tb.fns Cs (k-1)) (.cmp .ne (.var 3) (nE 0)) σ M)) (b:=pxs (glT gs) (Pk (glT gs) Tb.fns Cs (k-1)) [] w4) (M:=M) (S:=λx y σ=>σ=[some (I t),some (I b),some (N x),some (N y)]) (λx y σ s=>by
  subst s;simp) (λx y σ s hp=>by
  subst s;refine⟨_,?_,rfl⟩;rw[w4];simp(disch:=omega) [jz]) 4100 qAw t.natAbs b.natAbs _ rfl sb (by decide)
 subst s';rw[show N (Nat.gcd t.natAbs b.natAbs)=I (Int.gcd t b:Int) from rfl,<-hbN]at e;have wh:px (glT gs) (Pk (glT gs) Tb.fns Cs (k-1)) [] (.while_ (.cmp .ne (.var 3) (nE 0)) w4) [some (I t),some (I b),some (N t.natAbs),some (I b)] M=.ok (.nx [some (I t),some (I b),some (I (Int.gcd t b:Int)),some (N 0)],M):=by rw[J4];exact e
 have a1:=u7 (M:=M) t;have q1:=q1 M;have q2:=q2 M;have z:pxs (glT gs) (Pk (glT gs) Tb.fns Cs (k-1)) [] b38 [some (I t),some (I b),none,none] M=.ok (.rt (Q (Fr.red t b),true),M):=by
  rw[b38]
  repeat' first|with_reducible (first|exact a1|exact q1|exact q2|exact qS|exact qY|exact zH|exact zo|exact qU|exact ll2|exact zP|exact zk|exact O8 .. | assumption|apply qG|apply zJ|apply qx|apply ZG|apply qN)|((with_reducible apply qu);exact cN rfl)|assumption|exact nF rfl|exact nT rfl|rfl|((with_reducible apply qHC);exact wh)
 exact qe t38 ⟨rfl,by decide⟩ (by omega) rfl rfl z (qA rfl)
theorem ZD{M:Mem}{d:Nat}(x y:Int):eqT M (d+1) (I x) (I y)=some (decide (x=y)):=by
 show some (x==y)=_;congr 1
theorem qG7{M:Mem}(a b:Int×Int):qd M .eq (Q a) (Q b)=some (decide (a=b)):=by
 unfold qd;dsimp only;rw[B8 (ZD a.1 b.1) (ZD a.2 b.2)];congr 1;rw[wm];simp[Prod.ext_iff]
theorem f11(hk:3<=k){a b:Int×Int}(ha:Fr.Low a)(hb:Fr.Low b)(sa:SmQ 2000 a)(sb:SmQ 2000 b)(M:Mem):Pk (glT gs) Tb.fns Cs k 11 [Q a,Q b] M=.ok ((Q (Fr.add a b),true),M):=by
 have m1:=λ(M:Mem)=>qr (M:=M) sa.top sb.bot (by decide);have m2:=λ(M:Mem)=>qr (M:=M) sb.top sa.bot (by decide);have m3:=λ(M:Mem)=>qr (M:=M) sa.bot sb.bot (by decide);have e1:=f9 (k:=k-1) (by omega) (t:=a.1*b.2+b.1*a.2) (Fr.bpos ha hb) ((sa.bot.mul sb.bot).mono (by decide)) M;have m1:=m1 M;have m2:=m2 M;have m3:=m3 M;have ad:qq M .add (I (a.1*b.2)) (I (b.1*a.2))=some (I (a.1*b.2+b.1*a.2),true):=rfl;have z:pxs (glT gs) (Pk (glT gs) Tb.fns Cs (k-1)) [] b11 [some (Q a),some (Q b)] M=.ok (.rt (Q (Fr.add a b),true),M):=by
  rw[b11]
  repeat' first|with_reducible (first|exact m1|exact m2|exact m3|exact ad|exact e1|exact lk0 .. | exact lk1 .. | exact qS|exact qY|exact ze|exact qU|assumption|apply qG|apply qO|apply qm|apply zJ|apply qN|apply K9)|assumption|exact nF rfl|exact nT rfl|rfl
 exact qe t11 ⟨rfl,by decide⟩ (by omega) rfl rfl z (qA rfl)
theorem f12(hk:3<=k){a b:Int×Int}(ha:Fr.Low a)(hb:Fr.Low b)(sa:SmQ 2000 a)(sb:SmQ 2000 b)(M:Mem):Pk (glT gs) Tb.fns Cs k 12 [Q a,Q b] M=.ok ((Q (Fr.sub a b),true),M):=by
 rw[zK t12 ⟨rfl,by decide⟩ (by omega),b12,show Cs.getD 12 []=[] from rfl];have m1:=λ(M:Mem)=>qr (M:=M) sa.top sb.bot (by decide);have m2:=λ(M:Mem)=>qr (M:=M) sb.top sa.bot (by decide);have m3:=λ(M:Mem)=>qr (M:=M) sa.bot sb.bot (by decide);have e1:=f9 (k:=k-1) (by omega) (t:=a.1*b.2-b.1*a.2) (Fr.bpos ha hb) ((sa.bot.mul sb.bot).mono (by decide)) M;simp[m1,m2,m3,iT,e1,qA,Fr.sub]
theorem f13(hk:3<=k){a b:Int×Int}(ha:Fr.Low a)(hb:Fr.Low b)(sa:SmQ 2000 a)(sb:SmQ 2000 b)(M:Mem):Pk (glT gs) Tb.fns Cs k 13 [Q a,Q b] M=.ok ((Q (Fr.mul a b),true),M):=by
 rw[zK t13 ⟨rfl,by decide⟩ (by omega),b13,show Cs.getD 13 []=[] from rfl];have m1:=λ(M:Mem)=>qr (M:=M) sa.top sb.top (by decide);have m3:=λ(M:Mem)=>qr (M:=M) sa.bot sb.bot (by decide);have e1:=f9 (k:=k-1) (by omega) (t:=a.1*b.1) (Fr.bpos ha hb) ((sa.bot.mul sb.bot).mono (by decide)) M;simp[m1,m3,iT,e1,qA,Fr.mul]
theorem f37(hk:1<=k)(x:Int)(M:Mem):Pk (glT gs) Tb.fns Cs k 37 [I x] M=.ok (bT true,M):=by
 rw[zK t37 ⟨rfl,by decide⟩ hk];simp[b37,jI,qA]
theorem f41(hk:2<=k){a:Int×Int}(ha:Fr.Low a)(sa:SmQ 4100 a)(M:Mem):Pk (glT gs) Tb.fns Cs k 41 [Q a] M=.ok (bT true,M):=by
 have e1:=f38 (k:=k-1) (by omega) (t:=a.1) ha.pos sa.bot M;rw[Fr.red_self ha]at e1;have c1:∀{M:Mem},qd M .gt (I a.2) (N 0)=some true:=λ{M}=>by rw[show N 0=I 0 from rfl,qE3,uG (ha.pos)]
 have q:∀{M:Mem},qd M .eq (Q a) (Q a)=some true:=λ{M}=>by rw[qG7];simp
 have w1:=f37 (k:=k-1) (by omega) a.1 M;have w2:=f37 (k:=k-1) (by omega) a.2 M;have ty:zX M (Q a)=some "tuple":=rfl;have ln:zG M .len [Q a]=some (N 2,true):=by rw[U4];rfl
 have z:pxs (glT gs) (Pk (glT gs) Tb.fns Cs (k-1)) [] b41 [some (Q a)] M=.ok (.rt (bT true),M):=by
  rw[b41]
  repeat' first|with_reducible (first|exact ty|exact ln|exact c1|exact q|exact w1|exact w2|exact e1|exact lk0 .. | exact lk1 .. | exact qS|exact ze|exact qU|exact isT|exact O8 .. | assumption|apply qG|apply qO|apply qm|apply qo|apply qx|apply QG|apply Qc|apply O6|apply cT|apply cF|apply f_0|apply jb|apply qN|apply A6|apply K9)|assumption|exact nF rfl|exact nT rfl|rfl
 exact qe t41 ⟨rfl,by decide⟩ (by omega) rfl rfl z (qA rfl)
theorem f39(hk:2<=k){a b:Int×Int}(ha:Fr.Low a)(hb:Fr.Low b)(sa:SmQ 2000 a)(sb:SmQ 2000 b)(M:Mem):Pk (glT gs) Tb.fns Cs k 39 [Q a,Q b] M=.ok ((Q (Fr.add a b),true),M):=by
 have m1:=λ(M:Mem)=>qr (M:=M) sa.top sb.bot (by decide);have m2:=λ(M:Mem)=>qr (M:=M) sb.top sa.bot (by decide);have m3:=λ(M:Mem)=>qr (M:=M) sa.bot sb.bot (by decide);have e1:=f38 (k:=k-1) (by omega) (t:=a.1*b.2+b.1*a.2) (Fr.bpos ha hb) ((sa.bot.mul sb.bot).mono (by decide)) M;have m1:=m1 M;have m2:=m2 M;have m3:=m3 M;have ad:qq M .add (I (a.1*b.2)) (I (b.1*a.2))=some (I (a.1*b.2+b.1*a.2),true):=rfl;have z:pxs (glT gs) (Pk (glT gs) Tb.fns Cs (k-1)) [] b39 [some (Q a),some (Q b)] M=.ok (.rt (Q (Fr.add a b),true),M):=by
  rw[b39]
  repeat' first|with_reducible (first|exact m1|exact m2|exact m3|exact ad|exact e1|exact lk0 .. | exact lk1 .. | exact qS|exact qY|exact ze|exact qU|assumption|apply qG|apply qO|apply qm|apply zJ|apply qN|apply K9)|assumption|exact nF rfl|exact nT rfl|rfl
 exact qe t39 ⟨rfl,by decide⟩ (by omega) rfl rfl z (qA rfl)
theorem f40(hk:2<=k){a b:Int×Int}(ha:Fr.Low a)(hb:Fr.Low b)(sa:SmQ 2000 a)(sb:SmQ 2000 b)(M:Mem):Pk (glT gs) Tb.fns Cs k 40 [Q a,Q b] M=.ok ((Q (Fr.mul a b),true),M):=by
 have m1:=λ(M:Mem)=>qr (M:=M) sa.top sb.top (by decide);have m3:=λ(M:Mem)=>qr (M:=M) sa.bot sb.bot (by decide);have e1:=f38 (k:=k-1) (by omega) (t:=a.1*b.1) (Fr.bpos ha hb) ((sa.bot.mul sb.bot).mono (by decide)) M;have m1:=m1 M;have m3:=m3 M;have z:pxs (glT gs) (Pk (glT gs) Tb.fns Cs (k-1)) [] b40 [some (Q a),some (Q b)] M=.ok (.rt (Q (Fr.mul a b),true),M):=by
  rw[b40]
  repeat' first|with_reducible (first|exact m1|exact m3|exact e1|exact lk0 .. | exact lk1 .. | exact qS|exact qY|exact ze|exact qU|assumption|apply qG|apply qO|apply qm|apply zJ|apply qN|apply K9)|assumption|exact nF rfl|exact nT rfl|rfl
 exact qe t40 ⟨rfl,by decide⟩ (by omega) rfl rfl z (qA rfl)
end
noncomputable def R(q:Rat):T:=Q (Fr.of q)
theorem i6(q:Rat):T.lf (R q)=true:=by unfold R;simp
theorem R0{M:Mem}(q:Rat):zr M (R q) (N 0)=some (I q.num,true):=by unfold R;rw[l0];simp[Fr.of]
theorem R1{M:Mem}(q:Rat):zr M (R q) (N 1)=some (I (q.den:Int),true):=by unfold R;rw[l0];simp[Fr.of]
theorem qH8{M:Mem}(q:Rat):zG M .len [R q]=some (N 2,true):=by unfold R;rw[U4];rfl
theorem tyR{M:Mem}(q:Rat):zX M (R q)=some "tuple":=rfl
theorem eqR{M:Mem}(p q:Rat):qd M .eq (R p) (R q)=some (decide (p=q)):=by
 unfold R;rw[qG7];congr 1;rw[wm];simp[Fr.of_inj]
def Sz(q:Rat):Prop:=SmQ 2000 (Fr.of q)
theorem sz{q:Rat}{B:Nat}(h:-32<=q/\q<=32)(d:Dv q B)(hB:0<B)(hb:B<2 ^ 1990):Sz q:=by
 have l:=Fr.dv_le d hB;obtain⟨a,b⟩:=h;rw[Rat.le_iff]at a b;have a':-32*(q.den:Int)<=q.num:=by simpa using a
 have b':q.num<=32*(q.den:Int):=by simpa using b
 have e:(2:Nat) ^ 2000=1024*2 ^ 1990:=by rw[show 2000=10+1990 from rfl,Nat.pow_add]
 refine⟨?_,?_⟩
 ·show q.num.natAbs<2 ^ 2000;rw[e];generalize (2:Nat) ^ 1990=P at *;omega
 ·show ((q.den:Int)).natAbs<2 ^ 2000;rw[e];generalize (2:Nat) ^ 1990=P at *;omega
theorem szU{q:Rat}{B:Nat}(h:U q)(d:Dv q B)(hB:0<B)(hb:B<2 ^ 1990):Sz q:=sz ⟨by have:=h.1;grind,by have:=h.2;grind⟩ d hB hb
noncomputable def RL(n:Nat)(f:Nat->Rat):List T:=(List.range n).map λt=>R (f t)
theorem zE(n:Nat)(f:Nat->Rat):(RL n f).length=n:=by simp[RL]
theorem Qn{n:Nat}{f:Nat->Rat}{i:Nat}(h:i<n):(RL n f)[i]?=some (R (f i)):=by simp[RL,h]
theorem Jy:∀(l:List Rat),T.lfs (l.map R)=true
 | []=>by simp
 |x::r=>by rw[List.map_cons,Ql,i6,Jy r];rfl
theorem zp(n:Nat)(f:Nat->Rat):RL n f=((List.range n).map f).map R:=by unfold RL;rw[wx];rfl
theorem R8(n:Nat)(f:Nat->Rat):T.lfs (RL n f)=true:=by rw[zp];exact Jy _
theorem qAX{n:Nat}{f g:Nat->Rat}(h:∀t,t<n->f t=g t):RL n f=RL n g:=vX λt ht=>by rw[h t (wY.mp ht)]
theorem J2{α:Type}{gl:List T}{P:Nat->List T->Mem->PR (TB×Mem)}{e:TS->Mem->PR (TB×Mem)}{M:Mem}{σ:TS}(g h:α->T)(fr:α->Bool):∀(its:List α) (ys:List T) (b:Bool) (o:Option T),ys.length+its.length<=lim ->
  (∀x∈its,e (some (g x)::σ) M=.ok ((h x,fr x),M)) ->
  qI [] (.name 0) (pec gl P .nil) e (its.map g) ys b (o::σ) M=.ok ((.lst (ys++its.map h),b&&its.all fr),M)
 | [],ys,b,o,_,_=>by simp[qI]
 |x::r,ys,b,o,hl,he=>by
  rw[List.map_cons,qI];rw[show zL (.name 0) (g x) (o::σ)=some (some (g x)::σ) from rfl];dsimp only;rw[Zw,tD];dsimp only;rw[if_pos rfl,he x (by simp),tD];dsimp only;rw[if_pos ⟨by simp at hl;omega,rfl⟩];rw[J2 g h fr r (ys++[h x]) (b&&fr x) (some (g x)) (by simp at hl ⊢;omega) λy hy=>he y (by simp[hy])];simp[Bool.and_assoc]
section
variable{k:Nat}
theorem qHd(hk:3<=k){a b:Rat}(sa:Sz a)(sb:Sz b)(M:Mem):Pk (glT gs) Tb.fns Cs k 11 [R a,R b] M=.ok ((R (a+b),true),M):=by
 have:=f11 hk (Fr.of_low a) (Fr.of_low b) sa sb M;rw[Fr.add_of]at this;exact this
theorem qGC(hk:3<=k){a b:Rat}(sa:Sz a)(sb:Sz b)(M:Mem):Pk (glT gs) Tb.fns Cs k 12 [R a,R b] M=.ok ((R (a-b),true),M):=by
 have:=f12 hk (Fr.of_low a) (Fr.of_low b) sa sb M;rw[Fr.sub_of]at this;exact this
theorem qBh(hk:3<=k){a b:Rat}(sa:Sz a)(sb:Sz b)(M:Mem):Pk (glT gs) Tb.fns Cs k 13 [R a,R b] M=.ok ((R (a*b),true),M):=by
 have:=f13 hk (Fr.of_low a) (Fr.of_low b) sa sb M;rw[Fr.mul_of]at this;exact this
theorem qC4(hk:2<=k){q:Rat}(h:q.den<2 ^ 4100)(M:Mem):Pk (glT gs) Tb.fns Cs k 7 [R q] M=.ok (bT true,M):=by
 have e5:=f10 (k:=k-1) (by omega) (x:=q.num.natAbs) (y:=q.den) h M;rw[show Nat.gcd q.num.natAbs q.den=1 from q.reduced]at e5;have c:∀{M:Mem},qd M .lt (N q.den) (N 1)=some false:=λ{M}=>by rw[QN,uF (by have:=q.den_pos;omega)]
 have hd:I (q.den:Int)=N q.den:=rfl;have hw:=λ(x:Int) (M:Mem)=>f0 (k:=k-1) (by omega) x M;have hw2:∀M:Mem,Pk (glT gs) Tb.fns Cs (k-1) 0 [N q.den] M=.ok (bT true,M):=λM=>hw _ M;have w1:=hw q.num M;have w2:=hw2 M;have a1:=u7 (M:=M) q.num;have i0:=R0 (M:=M) q;have i1:=R1 (M:=M) q;rw[hd]at i1;have ty:=tyR (M:=M) q;have ln:=qH8 (M:=M) q;have z:pxs (glT gs) (Pk (glT gs) Tb.fns Cs (k-1)) [] b7 [some (R q)] M=.ok (.rt (bT true),M):=by
  rw[b7]
  repeat' first|with_reducible (first|exact ty|exact ln|exact c|exact w1|exact w2|exact a1|exact i0|exact i1|exact e5|exact qS|exact ze|exact qU|exact isF|exact QN .. | exact jM .. | exact O8 .. | assumption|apply qG|apply qO|apply qm|apply qo|apply qx|apply QG|apply O6|apply cF|apply f_0|apply jb|apply qN|apply A6)|assumption|exact nF rfl|exact nT rfl|rfl
 exact qe t7 ⟨rfl,by decide⟩ (by omega) rfl rfl z (qA rfl)
theorem qAC(hk:1<=k){s:Nat}(h1:1<=s)(h5:s<=5)(M:Mem):Pk (glT gs) Tb.fns Cs k 5 [N (2 ^ s)] M=.ok (bT true,M):=by
 rw[zK t5 ⟨rfl,by decide⟩ (by omega),b5,show Cs.getD 5 []=[] from rfl];have:s=1\/s=2\/s=3\/s=4\/s=5:=by omega
 have g:(glT gs)[0]?=some (.tup [N 1,N 2,N 4,N 8,N 16,N 32]):=rfl;have sl:∀{σ:TS}{M:Mem},pe (glT gs) (Pk (glT gs) Tb.fns Cs (k-1)) (.sl (.glob 0) (.cons (nE 1) .nil) .nil) σ M=.ok ((.tup [N 2,N 4,N 8,N 16,N 32],true),M):=λ{σ M}=>by
  rw[qE6,pe_glob,g];simp;rfl
 have e:∀{M:Mem},qd M .inn (N (2 ^ s)) (.tup [N 2,N 4,N 8,N 16,N 32])=some true:=λ{M}=>by
  rcases this with rfl|rfl|rfl|rfl|rfl<;>rfl
 simp[-qE6,sl,e,qA]
structure Row(s:Nat)(f:Nat->Rat)(b:Nat->Nat):Prop where
 u:∀t,t<2 ^ s->U (f t)
 d:∀t,t<2 ^ s->Dv (f t) (b t)
 p:∀t,t<2 ^ s->0<b t
 l:pr s b<2 ^ 1990
theorem Row.sz{s:Nat}{f:Nat->Rat}{b:Nat->Nat}(r:Row s f b){t:Nat}(ht:t<2 ^ s):Sz (f t):=szU (r.u t ht) (r.d t ht) (r.p t ht) (wk (Fr.le_pr s b r.p t ht) r.l)
theorem Row.wor{s:Nat}{f:Nat->Rat}{b:Nat->Nat}(r:Row (s+1) f b):Row s (λt=>wor (f t) (f (2 ^ s+t))) λt=>b t*b (2 ^ s+t):=by
 have:=Fr.p2 s;exact⟨λt ht=>Fr.wor_U (r.u t (by omega)) (r.u _ (by omega)),λt ht=>(r.d t (by omega)).wor (r.d _ (by omega)),λt ht=>uC (r.p t (by omega)) (r.p _ (by omega)),r.l⟩
theorem Row.mul{s:Nat}{f:Nat->Rat}{b:Nat->Nat}(r:Row (s+1) f b):Row s (λt=>f t*f (2 ^ s+t)) λt=>b t*b (2 ^ s+t):=by
 have:=Fr.p2 s;exact⟨λt ht=>Fr.mul_U (r.u t (by omega)) (r.u _ (by omega)),λt ht=>(r.d t (by omega)).mul (r.d _ (by omega)),λt ht=>uC (r.p t (by omega)) (r.p _ (by omega)),r.l⟩
theorem Row.sum{s:Nat}{f:Nat->Rat}{b:Nat->Nat}(r:Row (s+1) f b){t:Nat}(ht:t<2 ^ s):Sz (f t+f (2 ^ s+t)):=by
 have:=Fr.p2 s;have a:=r.u t (by omega);have c:=r.u (2 ^ s+t) (by omega);have q:=r.wor;exact _M.sz ⟨by have:=a.1;have:=c.1;grind,by have:=a.2;have:=c.2;grind⟩ (((r.d t (by omega)).up _).add ((r.d _ (by omega)).up' _)) (q.p t ht) (wk (Fr.le_pr s _ q.p t ht) q.l)
theorem qEJ(hk:4<=k){s:Nat}{f:Nat->Rat}{b:Nat->Nat}(r:Row (s+1) f b){t:Nat}(ht:t<2 ^ s)(M:Mem):Pk (glT gs) Tb.fns Cs k 19 [R (f t),R (f (2 ^ s+t))] M=.ok ((R (wor (f t) (f (2 ^ s+t))),true),M):=by
 have:=Fr.p2 s;have e1:=λM=>qHd (k:=k-1) (by omega) (r.sz (t:=t) (by omega)) (r.sz (t:=2 ^ s+t) (by omega)) M;have e2:=λM=>qBh (k:=k-1) (by omega) (r.sz (t:=t) (by omega)) (r.sz (t:=2 ^ s+t) (by omega)) M;have e3:=λM=>qGC (k:=k-1) (by omega) (r.sum ht) (r.mul.sz ht) M;have e1:=e1 M;have e2:=e2 M;have e3:=e3 M;have z:pxs (glT gs) (Pk (glT gs) Tb.fns Cs (k-1)) [] b19 [some (R (f t)),some (R (f (2 ^ s+t)))] M=.ok (.rt (R (wor (f t) (f (2 ^ s+t))),true),M):=by
  rw[b19]
  repeat' first|with_reducible (first|exact e1|exact e2|exact e3|exact qS|exact qY|exact qU|assumption|apply qG|apply qO|apply qN)|assumption|exact nF rfl|exact nT rfl|rfl
 exact qe t19 ⟨rfl,by decide⟩ (by omega) rfl rfl z (qA rfl)
end
section
variable{k:Nat}
theorem qDz(hk:5<=k){s:Nat}(hs:s<=5){f:Nat->Rat}{b:Nat->Nat}(r:Row (s+1) f b)(M:Mem):Pk (glT gs) Tb.fns Cs k 18 [.lst (RL (2 ^ (s+1)) f)] M=.ok ((.tup [.lst (RL (2 ^ s) λt=>wor (f t) (f (2 ^ s+t))),.lst (RL (2 ^ s) λt=>f t*f (2 ^ s+t))],false),M):=by
 have p:=Fr.p2 s;have h5:2 ^ s<=2 ^ 5:=wq (n:=2) (by decide) hs;have fd:∀{M:Mem},qq M .fdiv (N (2 ^ (s+1))) (N 2)=some (N (2 ^ s),true):=λ{M}=>by rw[ZC (by decide),p,show (2 ^ s+2 ^ s) / 2=2 ^ s by omega]
 have cx:∀(fn:Nat) (h:Nat->Rat),(∀t,t<2 ^ s->∀M,Pk (glT gs) Tb.fns Cs (k-1) fn [R (f t),R (f (2 ^ s+t))] M=.ok ((R (h t),true),M))->qI [] (.name 0) (pec (glT gs) (Pk (glT gs) Tb.fns Cs (k-1)) .nil) (pe (glT gs) (Pk (glT gs) Tb.fns Cs (k-1)) (.call fn (.cons (.idx (.var 2) (.var 0)) (.cons (.idx (.var 2) (.bin .add (.var 1) (.var 0))) .nil)))) ((List.range (2 ^ s)).map N) [] true [none,some (N (2 ^ s)),some (.lst (RL (2 ^ (s+1)) f))] M=.ok ((.lst (RL (2 ^ s) h),true),M):=λfn h he=>by
  have:=J2 (gl:=glT gs) (P:=Pk (glT gs) Tb.fns Cs (k-1)) (e:=pe (glT gs) (Pk (glT gs) Tb.fns Cs (k-1)) (.call fn (.cons (.idx (.var 2) (.var 0)) (.cons (.idx (.var 2) (.bin .add (.var 1) (.var 0))) .nil)))) (M:=M) (σ:=[some (N (2 ^ s)),some (.lst (RL (2 ^ (s+1)) f))]) N (λt=>R (h t)) (λ_=>true) (List.range (2 ^ s)) [] true none (by simp[lim];omega) λt ht=>by
   have ht:=wY.mp ht;have i1:=Qn (f:=f) (n:=2 ^ (s+1)) (i:=t) (by omega);have i2:=Qn (f:=f) (n:=2 ^ (s+1)) (i:=2 ^ s+t) (by omega);have he:=he t ht M;have ad:=zZ (M:=M) (2 ^ s) t
   change pe _ _ _ [some _,some _,some _] _=_
   repeat' first|with_reducible (first|exact i1|exact i2|exact he|exact ad|exact Je i1|exact Je i2|exact qS|exact qY|exact zH|exact ze|exact qU|exact ll2|exact jp|exact zP|exact zZ .. | assumption|apply qG|apply qO|apply qm|apply zJ|apply qx|apply ZG|apply zB|apply jm|apply Je)|((with_reducible apply qu);exact cN rfl)|assumption|rfl
  rw[show ((List.range (2 ^ s)).all λ_=>true)=true from wU.mpr λ_ _=>rfl]at this;simpa [RL] using this
 have c1:=cx 19 _ λt ht M=>qEJ (k:=k-1) (by omega) r ht M;have c2:=cx 13 _ λt ht M=>qBh (k:=k-1) (by omega) (r.sz (t:=t) (by omega)) (r.sz (t:=2 ^ s+t) (by omega)) M;have rg:=zl (n:=2 ^ s) (by omega);have ln:zG M .len [.lst (RL (2 ^ (s+1)) f)]=some (N (2 ^ (s+1)),true):=by rw[j8,zE]
 have z:pxs (glT gs) (Pk (glT gs) Tb.fns Cs (k-1)) [] b18 [some (.lst (RL (2 ^ (s+1)) f)),none,none,none] M=.ok (.rt (.tup [.lst (RL (2 ^ s) λt=>wor (f t) (f (2 ^ s+t))),.lst (RL (2 ^ s) λt=>f t*f (2 ^ s+t))],false),M):=by
  rw[b18]
  repeat' first|with_reducible (first|exact ln|exact fd|exact rg|exact c1|exact c2|exact qS|exact qY|exact zH|exact zo|exact ze|exact qU|exact ll2|exact jp|exact zP|exact zk|exact zZ .. | assumption|apply qG|apply qO|apply qm|apply zJ|apply qx|apply ZG|apply zB|apply jm|apply qN|apply Je)|((with_reducible apply qu);exact cN rfl)|assumption|exact nF rfl|exact nT rfl|rfl
 exact qe t18 ⟨rfl,by decide⟩ (by omega) rfl rfl z (qA rfl)
theorem T6:∀(s k:Nat) (f:Nat->Rat) (b:Nat->Nat) (M:Mem),s+6<=k->s<=5->Row s f b->Pk (glT gs) Tb.fns Cs k 21 [.lst (RL (2 ^ s) f)] M=.ok ((.lst (RL (2 ^ s) (sh s f)),true),M)
 | 0,k,f,b,M,hk,hs,r=>by
  have ln:zG M .len [.lst (RL (2 ^ 0) f)]=some (N 1,true):=by rw[j8,zE]
  have nn:qd M .eq (N 1) (N 1)=some true:=rfl;have lt:zG M .list [.lst (RL (2 ^ 0) f)]=some (.lst (RL (2 ^ 0) f),true):=by rw[qDI];unfold lT;rw[R8]
  have z:pxs (glT gs) (Pk (glT gs) Tb.fns Cs (k-1)) [] b21 [some (.lst (RL (2 ^ 0) f)),none] M=.ok (.rt (.lst (RL (2 ^ 0) (sh 0 f)),true),M):=by
   rw[b21]
   repeat' first|with_reducible (first|exact ln|exact nn|exact lt|exact qS|exact ze|exact qU|apply qG|apply qo|apply qx|apply jb|apply t_1|apply qN)|rfl
  exact qe t21 ⟨rfl,by decide⟩ (by omega) rfl rfl z (qA rfl)
 |s+1,k,f,b,M,hk,hs,r=>by
  have p:=Fr.p2 s;have h5:2 ^ s<=2 ^ 5:=wq (n:=2) (by decide) (by omega);have q:0<2 ^ s:=Nat.pow_pos (by decide);have n1:¬ 2 ^ (s+1)=1:=by omega
  have e:=λM=>qDz (k:=k-1) (by omega) (by omega) r M;have e1:=λM=>T6 s (k-1) _ _ M (by omega) (by omega) r.wor;have e2:=λM=>T6 s (k-1) _ _ M (by omega) (by omega) r.mul;have ad:∀{M:Mem},qq M .add (.lst (RL (2 ^ s) (sh s λt=>wor (f t) (f (2 ^ s+t))))) (.lst (RL (2 ^ s) (sh s λt=>f t*f (2 ^ s+t))))=some (.lst (RL (2 ^ (s+1)) (sh (s+1) f)),true):=λ{M}=>by
   rw[X3 (by simp[zE,lim];omega)];rw[zp,zp,zp (2 ^ (s+1)),Fr.sh_list,<-wy];unfold lT;rw[Jy]
  have e:=e M;have e1:=e1 M;have e2:=e2 M;have ln:zG M .len [.lst (RL (2 ^ (s+1)) f)]=some (N (2 ^ (s+1)),true):=by rw[j8,zE]
  have nn:qd M .eq (N (2 ^ (s+1))) (N 1)=some false:=by rw[jM,uF n1]
  have z:pxs (glT gs) (Pk (glT gs) Tb.fns Cs (k-1)) [] b21 [some (.lst (RL (2 ^ (s+1)) f)),none] M=.ok (.rt (.lst (RL (2 ^ (s+1)) (sh (s+1) f)),true),M):=by
   rw[b21]
   repeat' first|with_reducible (first|exact ln|exact nn|exact e|exact e1|exact e2|exact ad|exact lk0 .. | exact lk1 .. | exact qS|exact qY|exact ze|exact qU|exact isF|exact jp|exact jM .. | assumption|apply qG|apply qO|apply qm|apply zJ|apply qo|apply qx|apply f_0|apply jb|apply qN|apply K9)|((with_reducible apply qu);exact cN rfl)|assumption|exact nF rfl|exact nT rfl|rfl
  exact qe t21 ⟨rfl,by decide⟩ (by omega) rfl rfl z (qA rfl)
end
theorem qAk{M:Mem}{t:T}{xs:List T}(h:t.its M=some xs)(i:Nat):zr M t (N i)=(xs[i]?).map λt=>(t,t.lf):=by
 show ((t.its M).bind λxs=>(_L.ixN xs.length (i:Int)).bind λj=>(xs[j]?).map λt=>(t,t.lf))=_;rw[h,Option.bind_some];unfold _L.ixN;by_cases hi:i<xs.length
 ·rw[if_pos (by omega),if_pos (by omega),Option.bind_some,vV]
 ·rw[if_pos (by omega),if_neg (by omega),wd (by omega)];rfl
theorem T8{M:Mem}{t:T}{xs:List T}(h:t.its M=some xs):zG M .len [t]=some (N xs.length,true):=by
 show (t.its M).map _=_;rw[h];rfl
theorem qAI{M:Mem}{t:T}{xs:List T}(h:t.its M=some xs):zG M .list [t]=some (lT xs):=by
 show (t.its M).map _=_;rw[h];rfl
theorem qGf(n:Nat)(q:Rat):(R q).und n=true:=by
 show T.und n (.tup [I q.num,I (q.den:Int)])=true;simp[T.und,T.unds]
theorem S1(n:Nat):∀l:List Rat,T.unds n (l.map R)=true
 | []=>by simp[T.unds]
 |x::r=>by rw[List.map_cons,T.unds,qGf,S1 n r];rfl
theorem Q9(n m:Nat)(f:Nat->Rat):T.unds n (RL m f)=true:=by rw[zp];exact S1 n _
theorem l4{M B:Mem}(h:FlatM M){xs:List T}(hx:T.unds M.length xs=true):QY M.length (.ok (.rt (.lst xs,true),M++B))=.ok ((.lst xs,true),M):=by
 show _P.finish M.length _ _=_;unfold _P.finish;by_cases hb:(M++B).length=M.length
 ·have:B=[]:=wb.mp (by simp at hb;simp[hb]);subst this;rw[if_pos hb,wO]
 ·rw[if_neg hb,if_pos (by rw[vU];exact h.all _;rfl)];rw[show qM (M++B) M.length 6 (T.lst xs)=some (.lst xs) by unfold qM;rw[if_pos (by unfold T.und;exact hx)]];rw[PR.ofO_some,tD,Bool.true_or,vU rfl]
section
variable{k:Nat}
theorem qGq(hk:2<=k){a b:Rat}(sa:Sz a)(sb:Sz b)(M:Mem):Pk (glT gs) Tb.fns Cs k 39 [R a,R b] M=.ok ((R (a+b),true),M):=by
 have:=f39 hk (Fr.of_low a) (Fr.of_low b) sa sb M;rw[Fr.add_of]at this;exact this
theorem qG9(hk:2<=k){a b:Rat}(sa:Sz a)(sb:Sz b)(M:Mem):Pk (glT gs) Tb.fns Cs k 40 [R a,R b] M=.ok ((R (a*b),true),M):=by
 have:=f40 hk (Fr.of_low a) (Fr.of_low b) sa sb M;rw[Fr.mul_of]at this;exact this
theorem qFw{M:Mem}(q:Rat):eqT M 3 (R q) (R q)=some true:=by
 unfold R Q;rw[B8 (ZD _ _) (ZD _ _)];simp
theorem Z9{M:Mem}:∀l:List Rat,qf (eqT M 3) (l.map R) (l.map R)=some (l.map λ_=>true)
 | []=>rfl
 |x::r=>by rw[List.map_cons];unfold qf;rw[qFw,Z9 r];rfl
theorem qFo{M:Mem}(n:Nat)(f:Nat->Rat):qd M .eq (.lst (RL n f)) (.lst (RL n f))=some true:=by
 rw[zp];generalize (List.range n).map f=l;unfold qd;dsimp only;unfold eqT;simp only[qCT,qGb,if_true];rw[Z9];simp
theorem qFi{M:Mem}(n:Nat)(f:Nat->Rat):qd M .ne (.lst (RL n f)) (.lst (RL n f))=some false:=by
 have e:=qFo (M:=M) n f;unfold qd at e ⊢;dsimp only at e ⊢;rw[e];rfl
theorem U5(n:Nat)(f:Nat->Rat):RL (n+1) f=RL n f++[R (f n)]:=by unfold RL;rw[List.range_succ,wy];rfl
theorem qEY{q:Rat}{B:Nat}(d:Dv q B):Dv (-q) B:=by
 obtain⟨z,e⟩:=d;exact⟨-z,by rw[Rat.intCast_neg,<-e];grind⟩
theorem qEA{q:Rat}{B:Nat}(h:U q)(d:Dv q B)(hB:0<B)(hb:B<2 ^ 1990):Sz (-q):=sz ⟨by have:=h.2;grind,by have:=h.1;grind⟩ (qEY d) hB hb
theorem two_at(M:Mem)(A B:List T):(M++[A,B])[M.length]?=some A/\(M++[A,B])[M.length+1]?=some B:=by simp
theorem two_set(M:Mem)(A B X:List T):(M++[A,B]).set M.length X=M++[X,B]/\(M++[A,B]).set (M.length+1) X=M++[A,X]:=by
 constructor
 ·rw[wt (h:=wF _),vj];rfl
 ·rw[wt (h:=by omega),show M.length+1-M.length=1 by omega];rfl
theorem g6(hk:3<=k){M:Mem}{t:T}{s:Nat}{f:Nat->Rat}{b:Nat->Nat}(hs:s<=5)(r:Row (s+1) f b)(hi:∀B:Mem,t.its (M++B)=some (RL (2 ^ (s+1)) f)):∀(m j:Nat) (o1 o2:Option T),j+m=2 ^ s ->
  ∃p1 p2,zF [] (.name 4) (pxs (glT gs) (Pk (glT gs) Tb.fns Cs k) [2,3] qCY) ((List.range' j m).map N) [some t,some (N (2 ^ s)),some (.cell M.length),some (.cell (M.length+1)),o1,o2] (M++[RL j λt=>wor (f t) (f (2 ^ s+t)),RL j λt=>f t*f (2 ^ s+t)])=
   .ok (.nx [some t,some (N (2 ^ s)),some (.cell M.length),some (.cell (M.length+1)),p1,p2],M++[RL (2 ^ s) λt=>wor (f t) (f (2 ^ s+t)),RL (2 ^ s) λt=>f t*f (2 ^ s+t)])
 | 0,j,o1,o2,h=>⟨o1,o2,by rw[show j=2 ^ s by omega];rfl⟩
 |m+1,j,o1,o2,h=>by
  obtain⟨p1,p2,e⟩:=g6 hk hs r hi m (j+1) (some (N j)) (some (R (f j*f (2 ^ s+j)))) (by omega);refine⟨p1,p2,?_⟩;have h5:2 ^ s<=2 ^ 5:=wq (by decide) hs;have p:=Fr.p2 s;have hj:j<2 ^ s:=by omega
  rw[vQ,List.map_cons,zA,st4];have i1:∀B:Mem,zr (M++B) t (N j)=some (R (f j),true):=λB=>by rw[qAk (hi B),Qn (by omega),Option.map_some,i6]
  have i2:∀B:Mem,zr (M++B) t (N (2 ^ s+j))=some (R (f (2 ^ s+j)),true):=λB=>by rw[qAk (hi B),Qn (by omega),Option.map_some,i6]
  have sa:=r.sz (t:=j) (by omega);have sb:=r.sz (t:=2 ^ s+j) (by omega);have e1:=λM=>qG9 (k:=k) (by omega) sa sb M;have e2:=λM=>qGq (k:=k) (by omega) sa sb M;have q:=r.mul;have e3:=λM=>qGq (k:=k) (by omega) (r.sum hj) (qEA (q.u j hj) (q.d j hj) (q.p j hj) (wk (Fr.le_pr s _ q.p j hj) q.l)) M;rw[show f j+f (2 ^ s+j) + -(f j*f (2 ^ s+j))=wor (f j) (f (2 ^ s+j)) by unfold wor;grind]at e3;obtain⟨nq,hnq⟩:∃nq,nq=0-(f j*f (2 ^ s+j)).num:=⟨_,rfl⟩
  have sb0:∀{M:Mem},qq M .sub (N 0) (I (f j*f (2 ^ s+j)).num)=some (I nq,true):=λ{M}=>by rw[hnq];rfl
  have fold:T.tup [I nq,I ((f j*f (2 ^ s+j)).den:Int)]=R (-(f j*f (2 ^ s+j))):=by unfold R Q;rw[Fr.of_neg,hnq]
  have w1:=U5 j λt=>wor (f t) (f (2 ^ s+t));have w2:=U5 j λt=>f t*f (2 ^ s+t);have body:pxs (glT gs) (Pk (glT gs) Tb.fns Cs k) [2,3] qCY [some t,some (N (2 ^ s)),some (.cell M.length),some (.cell (M.length+1)),some (N j),o2] (M++[RL j λt=>wor (f t) (f (2 ^ s+t)),RL j λt=>f t*f (2 ^ s+t)])=
    .ok (.nx [some t,some (N (2 ^ s)),some (.cell M.length),some (.cell (M.length+1)),some (N j),some (R (f j*f (2 ^ s+j)))],M++[RL (j+1) λt=>wor (f t) (f (2 ^ s+t)),RL (j+1) λt=>f t*f (2 ^ s+t)]):=by
   rw[w1,w2];have l1:=zE j λt=>wor (f t) (f (2 ^ s+t));have l2:=zE j λt=>f t*f (2 ^ s+t);clear w1 w2 e hnq;generalize (RL j λt=>wor (f t) (f (2 ^ s+t)))=A at *;generalize (RL j λt=>f t*f (2 ^ s+t))=B at *;have a1:r9 (M++[A,B]) M.length (R (wor (f j) (f (2 ^ s+j))))=some (M++[A++[R (wor (f j) (f (2 ^ s+j)))],B]):=by
    rw[qBx,(two_at M A B).1,Option.bind_some,if_pos (by rw[l1];simp[lim];omega),(two_set M A B _).1]
   have a2:∀A:List T,r9 (M++[A,B]) (M.length+1) (R (f j*f (2 ^ s+j)))=some (M++[A,B++[R (f j*f (2 ^ s+j))]]):=λA=>by
    rw[qBx,(two_at M A B).2,Option.bind_some,if_pos (by rw[l2];simp[lim];omega),(two_set M A B _).2]
   have i1:=i1 [A,B];have i2:=i2 [A,B];have ad:=zZ (M:=M++[A,B]) (2 ^ s) j;have e1:=e1 (M++[A,B]);have e2:=e2 (M++[A,B]);have e3:=e3 (M++[A,B]);rw[<-fold]at e3;have r0:=R0 (M:=M++[A,B]) (f j*f (2 ^ s+j));have r1:=R1 (M:=M++[A,B]) (f j*f (2 ^ s+j));have a2:=a2 (A++[R (wor (f j) (f (2 ^ s+j)))])
   change pxs _ _ _ (.cons _ _) [_,some _,some _,some _,some _,_] _=_
   repeat' first|with_reducible (first|exact i1|exact i2|exact ad|exact e1|exact e2|exact e3|exact r0|exact r1|exact sb0|exact a1|exact a2|exact qS|exact qY|exact zH|exact zo|exact E9|exact C4|exact ze|exact qU|exact QJ|exact ll2|exact JZ|exact zZ .. | assumption|apply qG|apply qO|apply qm|apply zJ|apply ZG|apply qDx)|((with_reducible apply qu);exact cN rfl)|assumption|rfl
  rw[body,tD];exact e
theorem Y4:∀(s k:Nat) (f:Nat->Rat) (b:Nat->Nat) (t:T) (M:Mem),s+4<=k->s<=5->Row s f b->FlatM M->(∀B:Mem,t.its (M++B)=some (RL (2 ^ s) f))->Pk (glT gs) Tb.fns Cs k 46 [t] M=.ok ((.lst (RL (2 ^ s) (sh s f)),true),M)
 | 0,k,f,b,t,M,hk,hs,r,hM,hi=>by
  have hi0:t.its M=some (RL (2 ^ 0) f):=by simpa using hi []
  have ln:zG M .len [t]=some (N 1,true):=by rw[T8 hi0,zE]
  have nn:qd M .eq (N 1) (N 1)=some true:=rfl;have lt:zG M .list [t]=some (.lst (RL (2 ^ 0) f),true):=by rw[qAI hi0];unfold lT;rw[R8]
  have z:pxs (glT gs) (Pk (glT gs) Tb.fns Cs (k-1)) [2,3] b46 [some t,none,none,none,none,none] M=.ok (.rt (.lst (RL (2 ^ 0) (sh 0 f)),true),M):=by
   rw[b46]
   repeat' first|with_reducible (first|exact ln|exact nn|exact lt|exact qS|exact ze|exact qU|apply qG|apply qo|apply qx|apply jb|apply t_1|apply qN)|rfl
  exact qe t46 ⟨rfl,by decide⟩ (by omega) rfl rfl z (qA rfl)
 |s+1,k,f,b,t,M,hk,hs,r,hM,hi=>by
  have hi0:t.its M=some (RL (2 ^ (s+1)) f):=by simpa using hi []
  have p:=Fr.p2 s;have h5:2 ^ s<=2 ^ 5:=wq (by decide) (by omega);have q:0<2 ^ s:=Nat.pow_pos (by decide);have n1:¬ 2 ^ (s+1)=1:=by omega
  obtain⟨p1,p2,eL⟩:=g6 (k:=k-1) (by omega) (t:=t) (by omega) r hi (2 ^ s) 0 none none (by omega);rw[<-wz]at eL;have fd:∀{M:Mem},qq M .fdiv (N (2 ^ (s+1))) (N 2)=some (N (2 ^ s),true):=λ{M}=>by rw[ZC (by decide),p,show (2 ^ s+2 ^ s) / 2=2 ^ s by omega]
  have rg:=zl (n:=2 ^ s) (by omega);have fl:FlatM (M++[RL (2 ^ s) λt=>wor (f t) (f (2 ^ s+t)),RL (2 ^ s) λt=>f t*f (2 ^ s+t)]):=hM.app λc hc=>by
   simp only[wL,wg,or_false]at hc;rcases hc with rfl|rfl<;>exact Q9 0 _ _
  have e1:=Y4 s (k-1) _ _ (.cell M.length) _ (by omega) (by omega) r.wor fl (λB=>by
   show (M++[_,_]++B)[M.length]?=_;simp)
  have e2:=Y4 s (k-1) _ _ (.cell (M.length+1)) _ (by omega) (by omega) r.mul fl (λB=>by
   show (M++[_,_]++B)[M.length+1]?=_;simp)
  have ad:∀{M:Mem},qq M .add (.lst (RL (2 ^ s) (sh s λt=>wor (f t) (f (2 ^ s+t))))) (.lst (RL (2 ^ s) (sh s λt=>f t*f (2 ^ s+t))))=some (.lst (RL (2 ^ (s+1)) (sh (s+1) f)),true):=λ{M}=>by
   rw[X3 (by simp[zE,lim];omega)];rw[zp,zp,zp (2 ^ (s+1)),Fr.sh_list,<-wy];unfold lT;rw[Jy]
  have z:∀g:Nat->Rat,RL 0 g=[]:=λg=>rfl;rw[z,z]at eL;have th:∀n,thaw n (.lst [])=(.cell n,[[]]):=λn=>rfl;have ln:zG M .len [t]=some (N (2 ^ (s+1)),true):=by rw[T8 hi0,zE]
  have nn:qd M .eq (N (2 ^ (s+1))) (N 1)=some false:=by rw[jM,uF n1]
  have th1:=th M.length;have th2:thaw (M++[([]:List T)]).length (.lst [])=(.cell (M.length+1),[[]]):=by rw[show (M++[([]:List T)]).length=M.length+1 by simp];rfl
  rw[show M++[([]:List T),[]]=M++[[]]++[[]] by simp]at eL;have z:pxs (glT gs) (Pk (glT gs) Tb.fns Cs (k-1)) [2,3] b46 [some t,none,none,none,none,none] M=.ok (.rt (.lst (RL (2 ^ (s+1)) (sh (s+1) f)),true),M++[RL (2 ^ s) λt=>wor (f t) (f (2 ^ s+t)),RL (2 ^ s) λt=>f t*f (2 ^ s+t)]):=by
   rw[b46]
   repeat' first|with_reducible (first|exact ln|exact nn|exact fd|exact th1|exact th2|exact rg|exact eL|exact e1|exact e2|exact ad|exact qS|exact qY|exact zH|exact zo|exact ze|exact qU|exact isF|exact ll0|exact jp|exact zP|exact zk|exact jM .. | assumption|apply qG|apply qO|apply zJ|apply qo|apply qx|apply jV|apply jm|apply f_0|apply jb|apply ZV|apply qN)|((with_reducible apply qu);exact cN rfl)|((with_reducible apply jX);exact rfl)|assumption|rfl
  exact qe t46 ⟨rfl,by decide⟩ (by omega) rfl rfl z (l4 hM (Q9 _ _ _))
end
end _M
namespace _M
open PySem PySem.Spec _P
open _L (V)
open Fr (U Dv sh wor pr rup rdr Bd)
open _B (qk)
theorem X9(m:Nat):∀l:List Rat,Qb m (l.map R)=(l.map R,[])
 | []=>by simp[Qb]
 |x::r=>by
  have h:thaw m (R x)=(R x,[]):=by
   show thaw m (.tup [I x.num,I (x.den:Int)])=_;simp[thaw,Qb];rfl
  rw[List.map_cons,Qb,h];simp[X9 m r]
theorem Zp(m n:Nat)(f:Nat->Rat):thaw m (.lst (RL n f))=(.cell m,[RL n f]):=by
 rw[thaw,zp,X9];simp
theorem E4{α:Type}{d:jn}{gl:List T}{P:Nat->List T->Mem->PR (TB×Mem)}{e:TS->Mem->PR (TB×Mem)}{M:Mem}{σ:TS}(hd:qh d M=true)(g h:α->T):∀(its:List α) (ys:List T) (b:Bool) (o:Option T),ys.length+its.length<=lim ->
  (∀x∈its,e (some (g x)::σ) M=.ok ((h x,true),M)) ->
  qI d (.name 0) (pec gl P .nil) e (its.map g) ys b (o::σ) M=.ok ((.lst (ys++its.map h),b),M)
 | [],ys,b,o,_,_=>by simp[qI]
 |x::r,ys,b,o,hl,he=>by
  rw[List.map_cons,qI];rw[show zL (.name 0) (g x) (o::σ)=some (some (g x)::σ) from rfl];dsimp only;rw[Zw,tD];dsimp only;rw[if_pos rfl,he x (by simp),tD];dsimp only;rw[if_pos ⟨by simp at hl;omega,hd⟩];rw[E4 hd g h r (ys++[h x]) (b&&true) (some (g x)) (by simp at hl ⊢;omega) λy hy=>he y (by simp[hy])];simp
theorem Y0{n:Nat}{M M':Mem}(h:FlatM M)(k:Kept n M M'):FlatM M':=λc hc=>by
 obtain⟨j,hj⟩:=List.getElem?_of_mem hc;by_cases e:j=n
 ·subst e;obtain⟨g,s,e1,_⟩:=k.good;rw[e1]at hj;cases hj;exact V5 g s
 ·rw[k.oth j e]at hj;exact h c (wR hj)
theorem K1{d:Nat}:∀l l':List Rat,l.length=l'.length->qf (eqT M (d+2)) (l.map R) (l'.map R)=some (List.zipWith (λa b=>decide (a=b)) l l')
 | [],[],_=>rfl
 |x::l,y::l',h=>by
  have e:eqT M (d+2) (R x) (R y)=some (decide (x=y)):=by
   unfold R Q;rw[B8 (ZD _ _) (ZD _ _)];congr 1;rw[wm];simp only[wC,uH];rw[<-Fr.of_inj (a:=x) (b:=y),Prod.ext_iff]
  rw[List.map_cons,List.map_cons,qf,e,K1 l l' (by simpa using h)];rfl
 | [],_::_,h=>by simp at h
 |_::_,[],h=>by simp at h
theorem qAl:∀l l':List Rat,l.length=l'.length->((List.zipWith (λa b=>decide (a=b)) l l').all id)=decide (l=l')
 | [],[],_=>rfl
 |x::l,y::l',h=>by
  rw[List.zipWith_cons_cons,List.all_cons,qAl l l' (by simpa using h),wm];simp
 | [],_::_,h=>by simp at h
 |_::_,[],h=>by simp at h
def IsR(M:Mem)(t:T)(n:Nat)(f:Nat->Rat):Prop:=t=.lst (RL n f)\/∃m,t=.cell m/\M[m]?=some (RL n f)
theorem IsR.app{M C:Mem}{t:T}{n:Nat}{f:Nat->Rat}(h:IsR M t n f):IsR (M++C) t n f:=by
 rcases h with h|⟨m,h,e⟩
 ·exact .inl h
 ·exact .inr ⟨m,h,by rw[wD (wB.mp e).1];exact e⟩
section
variable{M:Mem}{t:T}{n:Nat}{f:Nat->Rat}
theorem IsR.its(h:IsR M t n f):t.its M=some (RL n f):=by rcases h with rfl|⟨m,rfl,e⟩;rfl;exact e
theorem IsR.lis(h:IsR M t n f):t.lis M=some (RL n f):=by rcases h with rfl|⟨m,rfl,e⟩;rfl;exact e
theorem IsR.ty(h:IsR M t n f):zX M t=some "list":=by rcases h with rfl|⟨m,rfl,e⟩;rfl;exact qGY e
theorem IsR.nv(h:IsR M t n f):t.isV=none:=by rcases h with rfl|⟨m,rfl,e⟩<;>rfl
theorem IsR.lf(h:IsR M t n f):t.lf=false:=by rcases h with rfl|⟨m,rfl,e⟩<;>simp
theorem IsR.src(h:IsR M t n f):∃d,Zi M t=some (RL n f,d)/\qh d M=true:=by
 rcases h with rfl|⟨m,rfl,e⟩
 ·exact⟨[],rfl,rfl⟩
 ·exact⟨_,B5 e,T7 e⟩
theorem IsR.len(h:IsR M t n f):zG M .len [t]=some (N n,true):=by
 show (t.its M).map _=_;rw[h.its,Option.map_some,zE];rfl
theorem IsR.idx(h:IsR M t n f){i:Nat}(hi:i<n):zr M t (N i)=some (R (f i),true):=by
 have a:zr M t (N i)=zr M (.lst (RL n f)) (N i):=by
  show (t.its M).bind _=_;rw[h.its];rfl
 rw[a,Qv,Qn hi];simp[i6]
theorem IsR.eqT{u:T}{g:Nat->Rat}{d:Nat}(h:IsR M t n f)(k:IsR M u n g)(e:∀i,i<n->f i=g i):_P.eqT M (d+3) t u=some true:=by
 unfold _P.eqT;rw[h.nv,k.nv,h.lis,k.lis];dsimp only;rw[if_pos (by rw[zE,zE]),qAX e,zp,K1 _ _ rfl,Option.map_some,qAl _ _ rfl];simp
theorem IsR.ne{u:T}(h:IsR M t n f)(k:IsR M u n f):qd M .ne t u=some false:=by
 show (_P.eqT M 4 t u).map (!·)=_;rw[h.eqT k λ_ _=>rfl];rfl
end
noncomputable def cap(s:Nat):Nat:=if s<=3 then 999999999999 else 9
theorem qGA(s:Nat):1<=cap s:=by unfold cap;split<;>decide
theorem qEg(s:Nat):cap s<=999999999999:=by unfold cap;split<;>decide
theorem qB2{s:Nat}(h1:1<=s)(h5:s<=5):(cap s ^ 6) ^ 2 ^ s<2 ^ 1990:=by
 have:s=1\/s=2\/s=3\/s=4\/s=5:=by omega
 rcases this with rfl|rfl|rfl|rfl|rfl<;>decide +kernel
theorem qFW(s:Nat):cap s ^ 6<2 ^ 1990:=by unfold cap;split<;>decide +kernel
structure Sh(s m:Nat)(g:Nat->Rat):Prop where
 u:∀t,t<m->U (g t)
 d:∀t,t<m->(g t).den<=cap s
noncomputable def fz(K:List Nat):Nat->Rat:=λt=>if t∈K then 0 else 1
noncomputable def prz(A:List Nat)(g:Nat->Rat):List (Nat×Rat):=(List.range (qD A).length).map λi=>((qD A).getD i 0,g i)
noncomputable def rdf(A K:List Nat)(g:Nat->Rat):Nat->Rat:=rdr (prz A g) (fz K)
theorem k9(A:List Nat)(t:Nat):∀ms:List Nat,(ms.flatMap (spo A)).count t<=ms.length
 | []=>by simp
 |m::ms=>by
  have h1:(spo A m).count t<=1:=List.nodup_iff_count.mp (List.nodup_range.filter _) t;have:=k9 A t ms;rw[vo,List.count_append,List.length_cons];omega
theorem V7(A:List Nat)(g:Nat->Rat):(prz A g).map (·.1)=qD A:=by
 unfold prz;rw[wx];refine vp λi=>?_;rw[wj];by_cases h:i<(qD A).length
 ·rw[vO h,wE h];simp[wa,h]
 ·rw[wd (by simp;omega),wd (by omega)];rfl
theorem qAV{s:Nat}{A K:List Nat}(h:Pn s A K):∀x∈qD A,x<2 ^ s:=λx hx=>by rw[<-h.len];exact qEa hx
theorem i8{s:Nat}{A K:List Nat}{g:Nat->Rat}(h:Pn s A K)(hg:Sh s (qD A).length g):∀p∈prz A g,p.1<2 ^ s/\U p.2/\p.2.den<=cap s:=λp hp=>by
 have h1:p.1∈qD A:=by rw[<-V7 A g];exact vG.mpr ⟨p,hp,rfl⟩
 obtain⟨i,hi,rfl⟩:=vG.mp hp;have hi:=wY.mp hi;exact⟨qAV h _ h1,hg.u i hi,hg.d i hi⟩
theorem bd0(n c:Nat)(K:List Nat):Bd n c (fz K) λ_=>0:=by
 refine⟨λt _=>?_,λt _=>?_⟩
 ·unfold fz;split
  ·exact⟨by grind,by grind⟩
  ·exact⟨by grind,by grind⟩
 ·unfold fz;split
  ·exact wF 1
  ·exact wF 1
theorem qGO{A:List Nat}{g:Nat->Rat}(t:Nat):0+((prz A g).map (·.1)).count t<=6:=by
 rw[V7,uA];exact k9 A t (List.range 6)
theorem qAh{s:Nat}{A K:List Nat}{g:Nat->Rat}(h:Pn s A K)(hg:Sh s (qD A).length g):∃e,Bd (2 ^ s) (cap s) (rdf A K g) e/\∀t,e t<=6:=
 Bd.run _ _ _ (bd0 _ _ K) (λt=>qGO t) (i8 h hg)
theorem qDe{s:Nat}{A K:List Nat}{g:Nat->Rat}(h:Pn s A K)(hg:Sh s (qD A).length g)(t:Nat)(ht:t<2 ^ s):U (rdf A K g t):=by
 obtain⟨e,b,_⟩:=qAh h hg;exact b.u t ht
theorem qDv{s:Nat}{A K:List Nat}{g:Nat->Rat}(h:Pn s A K)(hg:Sh s (qD A).length g)(t:Nat)(ht:t<2 ^ s):(rdf A K g t).den<=cap s ^ 6:=by
 obtain⟨e,b,he⟩:=qAh h hg;exact b.den (qGA s) ht (he t)
theorem F4{s:Nat}{A K:List Nat}{g:Nat->Rat}(h:Pn s A K)(hg:Sh s (qD A).length g):Row s (rdf A K g) λt=>(rdf A K g t).den:=
 ⟨qDe h hg,λt _=>Fr.dv_self _,λt _=>(rdf A K g t).den_pos,wk (Fr.pr_le s _ _ (qDv h hg)) (qB2 h.s1 h.s5)⟩
theorem szD{q:Rat}{c:Nat}(u:U q)(h:q.den<=c)(hc:c<2 ^ 1990):Sz q:=szU u (Fr.dv_self q) q.den_pos (wk h hc)
theorem qBN{n i:Nat}{f:Nat->Rat}{x:Rat}:(RL n f).set i (R x)=RL n (rup f i x):=by
 refine vp λj=>?_;rw[List.getElem?_set];by_cases hj:j<n
 ·rw[Qn hj,Qn hj];by_cases e:i=j
  ·subst e;simp[rup,zE,hj]
  ·rw[if_neg e];simp[rup,Ne.symm e]
 ·rw[wd (l:=RL n f) (by rw[zE];omega),wd (l:=RL n (rup f i x)) (by rw[zE];omega)];by_cases e:i=j
  ·subst e;rw[if_pos rfl,zE,if_neg hj]
  ·rw[if_neg e]
section
variable{k:Nat}
theorem qCB(hk:3<=k){q:Rat}(u:U q)(h:q.den<2 ^ 4100)(M:Mem):Pk (glT gs) Tb.fns Cs k 8 [R q] M=.ok (bT (decide (q.den<=999999999999)),M):=by
 have e:=qC4 (k:=k-1) (by omega) (q:=q) h M;obtain⟨a,b⟩:=Fr.num_le u;have c1:∀{M:Mem},qd M .le (N 0) (I q.num)=some true:=λ{M}=>by rw[show N 0=I 0 from rfl,y3,uG a]
 have c2:∀{M:Mem},qd M .le (I q.num) (I (q.den:Int))=some true:=λ{M}=>by rw[y3,uG b]
 have c3:∀{M:Mem},qd M .le (I (q.den:Int)) (N 999999999999)=some (decide (q.den<=999999999999)):=λ{M}=>by
  show qd M .le (N q.den) _=_;rw[qFb]
 rw[zK t8 ⟨rfl,by decide⟩ (by omega),b8,show Cs.getD 8 []=[] from rfl];simp[i6,e,R0,R1,c1,c2,c3,qA,-y3]
theorem L7(hk:4<=k){n:Nat}{f:Nat->Rat}(hn:n<=lim)(u:∀t,t<n->U (f t))(h:∀t,t<n->(f t).den<2 ^ 4100){M:Mem}{t:T}(i:IsR M t n f):Pk (glT gs) Tb.fns Cs k 17 [t,N n] M=.ok (bT ((List.range n).all λt=>decide ((f t).den<=999999999999)),M):=by
 obtain⟨d,s1,s2⟩:=i.src;have c:qI d (.name 0) (pec (glT gs) (Pk (glT gs) Tb.fns Cs (k-1)) .nil) (pe (glT gs) (Pk (glT gs) Tb.fns Cs (k-1)) (.call 8 (.cons (.var 0) .nil))) (RL n f) [] true [none] M=.ok ((.lst ((List.range n).map λt=>T.v (.bl (decide ((f t).den<=999999999999)))),true),M):=by
  have:=E4 (gl:=glT gs) (P:=Pk (glT gs) Tb.fns Cs (k-1)) (e:=pe (glT gs) (Pk (glT gs) Tb.fns Cs (k-1)) (.call 8 (.cons (.var 0) .nil))) (M:=M) (σ:=[]) s2 (λt=>R (f t)) (λt=>T.v (.bl (decide ((f t).den<=999999999999)))) (List.range n) [] true none (by simpa using hn) λt ht=>by
   have ht:=wY.mp ht;simp[i6,qCB (k:=k-1) (by omega) (u t ht) (h t ht),bT]
  simpa [RL] using this
 have al:zG M .all [.lst ((List.range n).map λt=>T.v (.bl (decide ((f t).den<=999999999999))))]=some (bT ((List.range n).all λt=>decide ((f t).den<=999999999999))):=y6 (λt=>decide ((f t).den<=999999999999)) _;have ty:=i.ty;have ln:=i.len;have n1:["list"].any (jI "list")=true:=by decide
 have z:pxs (glT gs) (Pk (glT gs) Tb.fns Cs (k-1)) [] b17 [some t,some (N n)] M=.ok (.rt (bT ((List.range n).all λt=>decide ((f t).den<=999999999999))),M):=by
  rw[b17]
  repeat' first|with_reducible (first|exact ty|exact ln|exact n1|exact s1|exact c|exact al|exact qS|exact qY|exact qU|exact jM .. | assumption|apply qG|apply qo|apply qx|apply zB|apply Qc|apply zm|apply cT|apply qN|apply A6)|assumption|exact dT rfl|rfl
 exact qe t17 ⟨rfl,by decide⟩ (by omega) rfl rfl z (qA rfl)
theorem G2(hk:5<=k){s:Nat}(h1:1<=s)(h5:s<=5){f:Nat->Rat}(u:∀t,t<2 ^ s->U (f t))(h:∀t,t<2 ^ s->(f t).den<2 ^ 4100){M:Mem}{t:T}(i:IsR M t (2 ^ s) f):Pk (glT gs) Tb.fns Cs k 16 [t] M=.ok (bT ((List.range (2 ^ s)).all λt=>decide ((f t).den<=999999999999)),M):=by
 have l:2 ^ s<=lim:=wG (wq (by decide) h5) (by decide);have ty:=i.ty;have ln:=i.len;have n1:["list"].any (jI "list")=true:=by decide
 have e5:=qAC (k:=k-1) (by omega) h1 h5 M;have e17:=L7 (k:=k-1) (by omega) l u h i;have z:pxs (glT gs) (Pk (glT gs) Tb.fns Cs (k-1)) [] b16 [some t] M=.ok (.rt (bT ((List.range (2 ^ s)).all λt=>decide ((f t).den<=999999999999))),M):=by
  rw[b16]
  repeat' first|with_reducible (first|exact ty|exact ln|exact n1|exact e5|exact e17|exact qS|exact qU|exact isT|assumption|apply qG|apply qO|apply qx|apply Qc|apply cT|apply qN|apply A6)|assumption|rfl
 exact qe t16 ⟨rfl,by decide⟩ (by omega) rfl rfl z (qA rfl)
theorem qDD(hk:6<=k){s:Nat}(h1:1<=s)(h5:s<=5){f:Nat->Rat}(u:∀t,t<2 ^ s->U (f t))(h:∀t,t<2 ^ s->(f t).den<2 ^ 4100){M:Mem}{t:T}(i:IsR M t (2 ^ s) f)(hb:((List.range (2 ^ s)).all λt=>decide ((f t).den<=999999999999))=true):Pk (glT gs) Tb.fns Cs k 15 [t] M=.ok ((.v .non,true),M):=by
 have e:=G2 (k:=k-1) (by omega) h1 h5 u h i;rw[hb]at e;rw[zK t15 ⟨rfl,by decide⟩ (by omega),b15,show Cs.getD 15 []=[] from rfl];simp[e,Zy]
theorem qGB(hk:6<=k){s:Nat}(h1:1<=s)(h5:s<=5){f:Nat->Rat}(u:∀t,t<2 ^ s->U (f t))(h:∀t,t<2 ^ s->(f t).den<2 ^ 4100){M:Mem}{t:T}(i:IsR M t (2 ^ s) f)(hb:((List.range (2 ^ s)).all λt=>decide ((f t).den<=999999999999))=false):Pk (glT gs) Tb.fns Cs k 15 [t] M=.exc 2 M:=by
 have e:=G2 (k:=k-1) (by omega) h1 h5 u h i;rw[hb]at e;rw[zK t15 ⟨rfl,by decide⟩ (by omega),b15,show Cs.getD 15 []=[] from rfl];simp[e,Jq]
theorem qDM(hk:3<=k){M0:Mem}{a0 a1 a2:Option T}{n c:Nat}(hc1:1<=c)(hc:c ^ 6<2 ^ 1990):∀(q:List (Nat×Rat)) (f:Nat->Rat) (e:Nat->Nat) (o3 o5:Option T),Bd n c f e->(∀t,e t+(q.map (·.1)).count t<=6)->(∀p∈q,p.1<n/\U p.2/\p.2.den<=c)->∃(p3 p5:Option T),
  zF [] (.tup [3,5]) (pxs (glT gs) (Pk (glT gs) Tb.fns Cs k) [4] qCp) (q.map λx=>T.tup [N x.1,R x.2]) [a0,a1,a2,o3,some (.cell M0.length),o5] (M0++[RL n f])=.ok (.nx [a0,a1,a2,p3,some (.cell M0.length),p5],M0++[RL n (rdr q f)])
 | [],f,e,o3,o5,_,_,_=>⟨o3,o5,rfl⟩
 |p::q,f,e,o3,o5,b,he,hq=>by
  obtain⟨p1,p2,p4⟩:=hq p (by simp);have he1:∀t,e t<=6:=λt=>wG (vH _ _) (he t);have sa:Sz (f p.1):=szD (b.u _ p1) (b.den hc1 p1 (he1 _)) hc;have sb:Sz p.2:=szD p2 (wG p4 (Nat.le_self_pow (by decide) c)) hc;obtain⟨p3,p5,ih⟩:=qDM hk (M0:=M0) (a0:=a0) (a1:=a1) (a2:=a2) hc1 hc q (rup f p.1 (f p.1*p.2)) _ (some (N p.1)) (some (R p.2)) (b.step p1 p2 p4) (λt=>by
   have:=he t;rw[List.map_cons,List.count_cons]at this;by_cases z:t=p.1
   ·rw[if_pos z];simp[z]at this ⊢;omega
   ·rw[if_neg z];simp[Ne.symm z]at this;omega) λx hx=>hq x (by simp[hx])
  refine⟨p3,p5,?_⟩;have at_:(M0++[RL n f])[M0.length]?=some (RL n f):=by simp
  have iR:IsR (M0++[RL n f]) (.cell M0.length) n f:=.inr ⟨_,rfl,at_⟩;have ix:=iR.idx p1;have e13:=qBh (k:=k) hk sa sb (M0++[RL n f]);have pt:Y8 (M0++[RL n f]) (.cell M0.length) (N p.1) (R (f p.1*p.2))=some (M0++[RL n (rup f p.1 (f p.1*p.2))]):=by
   rw[qAy at_ (by rw[zE];exact p1),wt _ _ (wF _),vj,List.set_cons_zero,qBN]
  have st:zL (.tup [3,5]) (.tup [N p.1,R p.2]) [a0,a1,a2,o3,some (.cell M0.length),o5]=some [a0,a1,a2,some (N p.1),some (.cell M0.length),some (R p.2)]:=rfl;have body:pxs (glT gs) (Pk (glT gs) Tb.fns Cs k) [4] qCp [a0,a1,a2,some (N p.1),some (.cell M0.length),some (R p.2)] (M0++[RL n f])=.ok (.nx [a0,a1,a2,some (N p.1),some (.cell M0.length),some (R p.2)],M0++[RL n (rup f p.1 (f p.1*p.2))]):=by
   clear ih
   change pxs _ _ _ (.cons _ _) _ _=_
   repeat' first|with_reducible (first|exact ix|exact e13|exact pt|exact zo|exact E9|exact C4|exact qU|exact QJ|assumption|apply qG|apply qO|apply qm|apply y7)|assumption
  rw[List.map_cons,P1 st,body,tD];exact ih
theorem qBg(A:List Nat)(g:Nat->Rat):List.zipWith (λa b=>T.tup [a,b]) ((qD A).map N) (RL (qD A).length g)=(prz A g).map λx=>T.tup [N x.1,R x.2]:=by
 unfold prz;refine vp λi=>?_;rw[wx,wj,List.getElem?_zipWith];by_cases hi:i<(qD A).length
 ·rw[vO hi,wj,Qn hi,wE hi];simp[wa,hi]
 ·rw[wd (l:=(qD A).map N) (by simp;omega),wd (l:=List.range (qD A).length) (by simp;omega)];rfl
theorem ZI{A:List Nat}(hA:A.length<=32):(qD A).length<=192:=by
 have:∀ms:List Nat,(ms.flatMap (spo A)).length<=ms.length*32:=λms=>by
  induction ms with
  |nil=>simp
  |cons m r ih=>
   rw[vo,wT,List.length_cons];have:(spo A m).length<=32:=wG (vL _ _) (by simp;exact hA);omega
 exact this (List.range 6)
theorem Sh.shr{s m:Nat}{g:Nat->Rat}(h:Sh s m g):((List.range m).all λt=>decide ((g t).den<=999999999999))=true:=
 wU.mpr λt ht=>uG (wG (h.d t (wY.mp ht)) (qEg s))
theorem i9{q:Rat}{c:Nat}(h:q.den<=c)(hc:c<2 ^ 1990):q.den<2 ^ 4100:=wk h (vA hc (Nat.pow_lt_pow_right (by decide) (by decide)))
theorem qCK(s:Nat):cap s<2 ^ 1990:=wk (Nat.le_self_pow (by decide) _) (qFW s)
theorem qCZ(hk:9<=k){s:Nat}{A K:List Nat}{g:Nat->Rat}(h:Pn s A K)(hg:Sh s (qD A).length g){M:Mem}(hW:WfM M):Pk (glT gs) Tb.fns Cs k 32 [.tup [N s,NL A,NL K],.lst (RL (qD A).length g)] M=.ok ((.lst (RL (2 ^ s) (rdf A K g)),true),M):=by
 have n5:=p5 h.s5;have sl:=ZI (A:=A) (by rw[h.len];exact n5);have e30:=qHw (k:=k-1) (by omega) h (M:=M) (ta:=NL A) (tk:=NL K) (.inl rfl) (.inl rfl);have e31:=qFp (k:=k-1) (by omega) hW (s:=s) (tk:=NL K) (A:=A) (ta:=NL A) (.inl rfl) (by rw[h.len];exact n5);have ln:zG M .len [NL (qD A)]=some (N (qD A).length,true):=(IsL.nl M (qD A)).len;have e17:=L7 (k:=k-1) (by omega) (wG sl (by decide)) hg.u (λt ht=>i9 (hg.d t ht) (qCK s)) (M:=M) (.inl rfl);rw[hg.shr]at e17;have e4:=f4 (k:=k-1) (by omega) h.s5 M;have rg:=zl (n:=2 ^ s) (by omega);have c:qI [] (.name 0) (pec (glT gs) (Pk (glT gs) Tb.fns Cs (k-1)) .nil) (pe (glT gs) (Pk (glT gs) Tb.fns Cs (k-1)) (.ite (.cmp .inn (.var 0) (.idx (.var 1) (nE 2))) (.tup (.cons (nE 0) (.cons (nE 1) .nil))) (.tup (.cons (nE 1) (.cons (nE 1) .nil))))) ((List.range (2 ^ s)).map N) [] true [none,some (.tup [N s,NL A,NL K])] M=.ok ((.lst (RL (2 ^ s) (fz K)),true),M):=by
  have z:=J2 (gl:=glT gs) (P:=Pk (glT gs) Tb.fns Cs (k-1)) (M:=M) (σ:=[some (.tup [N s,NL A,NL K])]) (e:=pe (glT gs) (Pk (glT gs) Tb.fns Cs (k-1)) (.ite (.cmp .inn (.var 0) (.idx (.var 1) (nE 2))) (.tup (.cons (nE 0) (.cons (nE 1) .nil))) (.tup (.cons (nE 1) (.cons (nE 1) .nil))))) N (λt=>R (fz K t)) (λ_=>true) (List.range (2 ^ s)) [] true none (by simp[lim];omega) (λx _=>by
   have i:∀{M:Mem},qd M .inn (N x) (NL K)=some (decide (x∈K)):=λ{M}=>qGJ x K;unfold fz;by_cases q:x∈K
   ·rw[uG q]at i;rw[if_pos q];clear q
    change pe _ _ _ [some _,some _] _=_
    repeat' first|with_reducible (first|exact i|exact lk2 .. | exact qS|exact qY|exact ze|exact qU|exact isT|exact isF|assumption|apply qG|apply qO|apply qm|apply qo|apply qx|apply zB|apply QG|apply qDU|apply jm|apply cT|apply cF|apply f_0|apply jb|apply ZV|apply K9)|((with_reducible apply qu);exact cN rfl)|((with_reducible apply jX);exact rfl)|assumption|exact cT rfl|exact cF rfl|rfl
   ·rw[uF q]at i;rw[if_neg q];clear q
    change pe _ _ _ [some _,some _] _=_
    repeat' first|with_reducible (first|exact i|exact lk2 .. | exact qS|exact qY|exact ze|exact qU|exact isT|exact isF|assumption|apply qG|apply qO|apply qm|apply qo|apply qx|apply zB|apply QG|apply qDU|apply jm|apply cT|apply cF|apply f_0|apply jb|apply ZV|apply K9)|((with_reducible apply qu);exact cN rfl)|((with_reducible apply jX);exact rfl)|assumption|exact cT rfl|exact cF rfl|rfl)
  rw[show ((List.range (2 ^ s)).all λ_=>true)=true from wU.mpr λ_ _=>rfl,List.nil_append]at z;exact z
 have th:thaw M.length (.lst (RL (2 ^ s) (fz K)))=(.cell M.length,[RL (2 ^ s) (fz K)]):=Zp _ _ _;obtain⟨p3,p5',e⟩:=qDM (k:=k-1) (by omega) (M0:=M) (a0:=some (.tup [N s,NL A,NL K])) (a1:=some (.lst (RL (qD A).length g))) (a2:=some (NL (qD A))) (qGA s) (qFW s) (prz A g) (fz K) (λ_=>0) none none (bd0 _ _ K) (λt=>qGO t) (i8 h hg);rw[<-qBg]at e;have sr1:∀{M:Mem},ZS M (NL (qD A))=some ((qD A).map N,[]):=λ{M}=>rfl;have sr2:∀{M:Mem},ZS M (.lst (RL (qD A).length g))=some (RL (qD A).length g,[]):=λ{M}=>rfl;have e:zF ([]++[]) (.tup [3,5]) _ _ _ _=_:=e;have z:pxs (glT gs) (Pk (glT gs) Tb.fns Cs (k-1)) [4] b32 [some (.tup [N s,NL A,NL K]),some (.lst (RL (qD A).length g)),none,none,none,none] M=.ok (.rt (.cell M.length,false),M++[RL (2 ^ s) (rdf A K g)]):=by
  unfold rdf
  rw[b32]
  repeat' first|with_reducible (first|exact e30|exact e31|exact ln|exact e17|exact e4|exact rg|exact c|exact th|exact sr1|exact sr2|exact e|exact qS|exact qY|exact zH|exact E9|exact ze|exact qU|exact zP|exact Jo|assumption|apply qG|apply qO|apply qm|apply qx|apply zB|apply QG|apply jm|apply f_0|apply jb|apply ZV|apply qN|apply qFN|apply qF9|apply K9)|((with_reducible apply qu);exact cN rfl)|((with_reducible apply jX);exact rfl)|assumption|exact nF rfl|rfl
 exact qe t32 ⟨rfl,by decide⟩ (by omega) rfl rfl z (Zn rfl hW (by simp) (wF _) (R8 _ _) false)
end
end _M
namespace _M
open PySem PySem.Spec _P
open _L (V)
open Fr (U Dv sh wor pr rup rdr Bd)
open _B (qk pick ZQ jU SelP)
theorem Q3{M B:Mem}(h:WfM M){xs:List T}(hx:T.unds M.length xs=true):QY M.length (.ok (.rt (.lst xs,true),M++B))=.ok ((.lst xs,true),M):=by
 show _P.finish M.length _ _=_;unfold _P.finish;by_cases hb:(M++B).length=M.length
 ·have:B=[]:=wb.mp (by simp at hb;simp[hb]);subst this;rw[if_pos hb,wO]
 ·rw[if_neg hb,if_pos (by rw[vU rfl];exact h)];rw[show qM (M++B) M.length 6 (T.lst xs)=some (.lst xs) by unfold qM;rw[if_pos (by unfold T.und;exact hx)]];rw[PR.ofO_some,tD,Bool.true_or,vU rfl]
section
variable{k:Nat}
theorem qGG(hk:1<=k){a b:Rat}(sa:Sz a)(sb:Sz b)(M:Mem):Pk (glT gs) Tb.fns Cs k 14 [R a,R b] M=.ok (bT (decide (a<b)),M):=by
 have m1:∀{M:Mem},qq M .mul (I a.num) (I (b.den:Int))=some (I (a.num*(b.den:Int)),true):=λ{M}=>qr (M:=M) sa.top sb.bot (by decide);have m2:∀{M:Mem},qq M .mul (I b.num) (I (a.den:Int))=some (I (b.num*(a.den:Int)),true):=λ{M}=>qr (M:=M) sb.top sa.bot (by decide);have lt:∀{M:Mem},qd M .lt (I (a.num*(b.den:Int))) (I (b.num*(a.den:Int)))=some (decide (a<b)):=λ{M}=>by
  rw[qAU];congr 1;rw[wm,uH,uH,Rat.lt_iff]
 have x0:=R0 (M:=M) a;have x1:=R1 (M:=M) a;have y0:=R0 (M:=M) b;have y1:=R1 (M:=M) b;have z:pxs (glT gs) (Pk (glT gs) Tb.fns Cs (k-1)) [] b14 [some (R a),some (R b)] M=.ok (.rt (bT (decide (a<b))),M):=by
  rw[b14]
  repeat' first|with_reducible (first|exact x0|exact x1|exact y0|exact y1|exact m1|exact m2|exact lt|exact qS|exact qY|exact ze|assumption|apply qm|apply zJ|apply qo|apply qN)|assumption|exact nF rfl|exact nT rfl|rfl
 exact qe t14 ⟨rfl,by decide⟩ (hk) rfl rfl z (qA rfl)
theorem qCs(hk:2<=k){n:Nat}{w:Nat->Rat}(hw:∀p,p<n->Sz (w p)){i j:Nat}(hi:i<n)(hj:j<n)(M:Mem):Pk (glT gs) Tb.fns Cs k 26 [.lst (RL n w),N i,N j] M=.ok (bT (qk w i j),M):=by
 have x1:∀{M:Mem},zr M (.lst (RL n w)) (N i)=some (R (w i),true):=λ{M}=>by rw[Qv,Qn hi,Option.map_some,i6]
 have x2:∀{M:Mem},zr M (.lst (RL n w)) (N j)=some (R (w j),true):=λ{M}=>by rw[Qv,Qn hj,Option.map_some,i6]
 have e1:=qGG (k:=k-1) (by omega) (hw i hi) (hw j hj) M;by_cases q:w i=w j
 ·have eq:∀{M:Mem},qd M .eq (R (w i)) (R (w j))=some true:=λ{M}=>by rw[eqR,uG q]
  rw[show qk w i j=decide (j<i) by simp[qk,q]];clear q;have z:pxs (glT gs) (Pk (glT gs) Tb.fns Cs (k-1)) [] b26 [some (.lst (RL n w)),some (N i),some (N j)] M=.ok (.rt (bT (decide (j<i))),M):=by
   rw[b26]
   repeat' first|with_reducible (first|exact x1|exact x2|exact eq|exact qS|exact qY|exact zH|exact qU|exact isT|exact isF|exact C3 .. | assumption|apply qG|apply qO|apply qm|apply qo|apply t_1|apply f_0|apply jb|apply qN)|assumption|exact nF rfl|exact nT rfl|rfl
  exact qe t26 ⟨rfl,by decide⟩ (by omega) rfl rfl z (qA rfl)
 ·have eq:∀{M:Mem},qd M .eq (R (w i)) (R (w j))=some false:=λ{M}=>by rw[eqR,uF q]
  rw[show qk w i j=decide (w i<w j) by simp[qk,q]];clear q;have z:pxs (glT gs) (Pk (glT gs) Tb.fns Cs (k-1)) [] b26 [some (.lst (RL n w)),some (N i),some (N j)] M=.ok (.rt (bT (decide (w i<w j))),M):=by
   rw[b26]
   repeat' first|with_reducible (first|exact x1|exact x2|exact eq|exact e1|exact qS|exact qY|exact zH|exact qU|exact isT|exact isF|exact C3 .. | assumption|apply qG|apply qO|apply qm|apply qo|apply t_1|apply f_0|apply jb|apply qN)|assumption|exact nF rfl|exact nT rfl|rfl
  exact qe t26 ⟨rfl,by decide⟩ (by omega) rfl rfl z (qA rfl)
theorem qGH(hk:1<=k){a b:Rat}(sa:Sz a)(sb:Sz b)(M:Mem):Pk (glT gs) Tb.fns Cs k 47 [R a,R b] M=.ok (bT (decide (a<b)),M):=by
 have m1:∀{M:Mem},qq M .mul (I a.num) (I (b.den:Int))=some (I (a.num*(b.den:Int)),true):=λ{M}=>qr (M:=M) sa.top sb.bot (by decide);have m2:∀{M:Mem},qq M .mul (I b.num) (I (a.den:Int))=some (I (b.num*(a.den:Int)),true):=λ{M}=>qr (M:=M) sb.top sa.bot (by decide);have lt:∀{M:Mem},qd M .lt (I (a.num*(b.den:Int))) (I (b.num*(a.den:Int)))=some (decide (a<b)):=λ{M}=>by
  rw[qAU];congr 1;rw[wm,uH,uH,Rat.lt_iff]
 have x0:=R0 (M:=M) a;have x1:=R1 (M:=M) a;have y0:=R0 (M:=M) b;have y1:=R1 (M:=M) b;have z:pxs (glT gs) (Pk (glT gs) Tb.fns Cs (k-1)) [] b47 [some (R a),some (R b)] M=.ok (.rt (bT (decide (a<b))),M):=by
  rw[b47]
  repeat' first|with_reducible (first|exact x0|exact x1|exact y0|exact y1|exact m1|exact m2|exact lt|exact qS|exact qY|exact ze|assumption|apply qm|apply zJ|apply qo|apply qN)|assumption|exact nF rfl|exact nT rfl|rfl
 exact qe t47 ⟨rfl,by decide⟩ (hk) rfl rfl z (qA rfl)
theorem A4(hk:1<=k)(x:Nat)(M:Mem):Pk (glT gs) Tb.fns Cs k 37 [N x] M=.ok (bT true,M):=by
 rw[zK t37 ⟨rfl,by decide⟩ hk,b37,show Cs.getD 37 []=[] from rfl];simp[jI,qA,bT]
theorem K4:∀(L:List Nat),(L.map λ_=>1).sum=L.length
 | []=>rfl
 |x::L=>by rw[List.map_cons,List.sum_cons,K4 L,List.length_cons];omega
theorem qHv(hk:3<=k){n:Nat}{w:Nat->Rat}(hw:∀p,p<n->Sz (w p)){P:List Nat}(hP:∀p∈P,p<n)(hl:P.length<=32){p:Nat}(hp:p<n)(M:Mem):Pk (glT gs) Tb.fns Cs k 25 [.lst (RL n w),NL P,N p] M=.ok ((N (ZQ w P p),true),M):=by
 have c:=jf (M:=M) (o:=none) (σ:=[some (N p),some (.lst (RL n w))]) (its:=P) (c:=pec (glT gs) (Pk (glT gs) Tb.fns Cs (k-1)) (.cons (.call 26 (.cons (.var 2) (.cons (.var 0) (.cons (.var 1) .nil)))) .nil)) (e:=pe (glT gs) (Pk (glT gs) Tb.fns Cs (k-1)) (nE 1)) (λi=>qk w i p) (λ_=>1) (wG hl (by decide))
  (λx hx=>by have:=qCs (k:=k-1) (by omega) hw (hP x hx) hp M;simp[this]) (λx hx _=>by simp)
 have sm:∀{M:Mem},zG M .sum [NL ((P.filter λi=>qk w i p).map λ_=>1)]=some (N (ZQ w P p),true):=λ{M}=>by
  rw[(IsL.nl M _).sum,K4];rfl
 have sr:Zi M (NL P)=some (P.map N,[]):=rfl;have z:pxs (glT gs) (Pk (glT gs) Tb.fns Cs (k-1)) [] b25 [some (.lst (RL n w)),some (NL P),some (N p)] M=.ok (.rt (N (ZQ w P p),true),M):=by
  rw[b25]
  repeat' first|with_reducible (first|exact c|exact sm|exact sr|exact qS|exact qY|exact zH|exact qU|assumption|apply qG|apply qx|apply zB|apply zm|apply qN)|assumption|rfl
 exact qe t25 ⟨rfl,by decide⟩ (by omega) rfl rfl z (qA rfl)
theorem qD5(hk:4<=k){n m:Nat}{w:Nat->Rat}(hw:∀p,p<n->Sz (w p)){P:List Nat}(hP:∀p∈P,p<n)(hl:P.length<=32)(M:Mem):Pk (glT gs) Tb.fns Cs k 24 [.lst (RL n w),NL P,N m] M=.ok ((NL (jU w P m),true),M):=by
 have c:=jf (M:=M) (o:=none) (σ:=[some (N m),some (NL P),some (.lst (RL n w))]) (its:=P) (c:=pec (glT gs) (Pk (glT gs) Tb.fns Cs (k-1)) (.cons (.cmp .lt (.call 25 (.cons (.var 3) (.cons (.var 2) (.cons (.var 0) .nil)))) (.var 1)) .nil)) (e:=pe (glT gs) (Pk (glT gs) Tb.fns Cs (k-1)) (.var 0)) (λp=>decide (ZQ w P p<m)) (λx=>x) (wG hl (by decide))
  (λx hx=>by have:=qHv (k:=k-1) (by omega) hw hP hl (hP x hx) M;simp[this]) (λx hx _=>by simp)
 rw[vn]at c;have c:qI _ _ _ _ _ _ _ _ _=.ok ((NL (jU w P m),true),M):=c;have sr:Zi M (NL P)=some (P.map N,[]):=rfl;have z:pxs (glT gs) (Pk (glT gs) Tb.fns Cs (k-1)) [] b24 [some (.lst (RL n w)),some (NL P),some (N m)] M=.ok (.rt (NL (jU w P m),true),M):=by
  rw[b24]
  repeat' first|with_reducible (first|exact c|exact sr|exact qS|exact qY|exact zH|exact QN .. | assumption|apply zB|apply zm|apply qN)|assumption|rfl
 exact qe t24 ⟨rfl,by decide⟩ (by omega) rfl rfl z (qA rfl)
theorem qBL(hk:2<=k){m n:Nat}(h1:1<=m)(h2:m<=n)(M:Mem):Pk (glT gs) Tb.fns Cs k 23 [N m,N n] M=.ok ((.v .non,true),M):=by
 rw[zK t23 ⟨rfl,by decide⟩ (by omega),b23,show Cs.getD 23 []=[] from rfl];have e:Pk (glT gs) Tb.fns Cs (k-1) 0 [N m] M=.ok (bT true,M):=f0 (k:=k-1) (by omega) (m:Int) M;simp[e,h1,h2,Zy]
structure Rw(s:Nat)(f:Nat->Rat):Prop where
 s1:1<=s
 s5:s<=5
 u:∀t,t<2 ^ s->U (f t)
 d:∀t,t<2 ^ s->(f t).den<2 ^ 4100
 r:Row s f λt=>(f t).den
theorem Rw.of{s:Nat}{A K:List Nat}{g:Nat->Rat}(h:Pn s A K)(hg:Sh s (qD A).length g):Rw s (rdf A K g):=
 ⟨h.s1,h.s5,qDe h hg,λt ht=>i9 (qDv h hg t ht) (qFW s),F4 h hg⟩
theorem Rw.sz{s:Nat}{f:Nat->Rat}(r:Rw s f)(P:Nat)(hP:P<2 ^ s):Sz (sh s f P):=szU (Fr.sh_U s f P r.u hP) (Fr.sh_dv s f _ P (λt _=>Fr.dv_self _) hP) (Fr.pr_pos s _ r.r.p) r.r.l
theorem Rw.zs{s:Nat}{f:Nat->Rat}(r:Rw s f)(t:Nat)(ht:t<2 ^ s):Sz (f t):=r.r.sz ht
theorem qBd(hk:12<=k){s:Nat}{A K:List Nat}{g:Nat->Rat}(h:Pn s A K)(hg:Sh s (qD A).length g){M:Mem}(hW:WfM M):Pk (glT gs) Tb.fns Cs k 33 [.tup [N s,NL A,NL K],.lst (RL (qD A).length g)] M=.ok ((.lst (RL (2 ^ s) (sh s (rdf A K g))),true),M):=by
 have e32:=qCZ (k:=k-1) (by omega) h hg hW;have e21:=T6 s (k-1) (rdf A K g) _ M (by have:=h.s5;omega) h.s5 (F4 h hg);have z:pxs (glT gs) (Pk (glT gs) Tb.fns Cs (k-1)) [] b33 [some (.tup [N s,NL A,NL K]),some (.lst (RL (qD A).length g))] M=.ok (.rt (.lst (RL (2 ^ s) (sh s (rdf A K g))),true),M):=by
  rw[b33]
  repeat' first|with_reducible (first|exact e32|exact e21|exact qS|exact qY|exact qU|assumption|apply qG|apply qO|apply qN)|assumption|rfl
 exact qe t33 ⟨rfl,by decide⟩ (by omega) rfl rfl z (qA rfl)
noncomputable def lft(s:Nat)(K:List Nat):List Nat:=(List.range (2 ^ s)).filter λp=>!decide (p∈K)
theorem qBF{s:Nat}{K:List Nat}:∀p∈lft s K,p<2 ^ s:=λp hp=>wY.mp (vC.mp hp).1
theorem V9{s:Nat}{K:List Nat}(h:s<=5):(lft s K).length<=32:=wG (vL _ _) (by rw[vf];exact p5 h)
theorem qEU(s:Nat)(K:List Nat):(lft s K).Pairwise (·<·):=vm.filter _
theorem qEB{M:Mem}{P:Nat->List T->Mem->PR (TB×Mem)}{s:Nat}(h:s<=5){A K:List Nat}:qI [] (.name 0) (pec (glT gs) P (.cons (.cmp .notin (.var 0) (.idx (.var 1) (nE 2))) .nil)) (pe (glT gs) P (.var 0)) ((List.range (2 ^ s)).map N) [] true [none,some (.tup [N s,NL A,NL K])] M=.ok ((NL (lft s K),true),M):=by
 have c:=jf (M:=M) (o:=none) (σ:=[some (.tup [N s,NL A,NL K])]) (its:=List.range (2 ^ s)) (c:=pec (glT gs) P (.cons (.cmp .notin (.var 0) (.idx (.var 1) (nE 2))) .nil)) (e:=pe (glT gs) P (.var 0)) (λp=>!decide (p∈K)) (λx=>x) (by have:=p5 h;simp[lim];omega) (λx _=>by
  have i:∀{M:Mem},qd M .notin (N x) (NL K)=some (!decide (x∈K)):=λ{M}=>F6 x K;simp[i]) (λx hx _=>by simp)
 rw[vn]at c;exact c
theorem best_(hk:12<=k){s m:Nat}{A K:List Nat}{g:Nat->Rat}(h:Pn s A K)(hg:Sh s (qD A).length g)(h1:1<=m)(h2:m<=(lft s K).length){M:Mem}(hW:WfM M):Pk (glT gs) Tb.fns Cs k 34 [.tup [N s,NL A,NL K],.lst (RL (qD A).length g),N m] M=.ok ((NL (jU (sh s (rdf A K g)) (lft s K) m),true),M):=by
 have e32:=qCZ (k:=k-1) (by omega) h hg hW;have e21:=T6 s (k-1) (rdf A K g) _ M (by have:=h.s5;omega) h.s5 (F4 h hg);have ln:zG M .len [.lst (RL (2 ^ s) (rdf A K g))]=some (N (2 ^ s),true):=(IsR.len (.inl rfl))
 have ln2:zG M .len [NL (lft s K)]=some (N (lft s K).length,true):=(IsL.nl M _).len;have n5:=p5 h.s5;have rg:=zl (n:=2 ^ s) (by omega);have c:=qEB (M:=M) (P:=Pk (glT gs) Tb.fns Cs (k-1)) h.s5 (A:=A) (K:=K);have e23:=qBL (k:=k-1) (by omega) h1 h2 M;have e24:=qD5 (k:=k-1) (by omega) (m:=m) (Rw.of h hg).sz (P:=lft s K) qBF (V9 h.s5) M;have z:pxs (glT gs) (Pk (glT gs) Tb.fns Cs (k-1)) [] b34 [some (.tup [N s,NL A,NL K]),some (.lst (RL (qD A).length g)),some (N m),none,none] M=.ok (.rt (NL (jU (sh s (rdf A K g)) (lft s K) m),true),M):=by
  rw[b34]
  repeat' first|with_reducible (first|exact e32|exact e21|exact ln|exact ln2|exact rg|exact c|exact e23|exact e24|exact qS|exact qY|exact zH|exact zo|exact E9|exact qU|exact zk|exact Jo|assumption|apply qG|apply qO|apply qx|apply zB|apply jm|apply qN|apply qFN)|((with_reducible apply qu);exact cN rfl)|assumption|rfl
 exact qe t34 ⟨rfl,by decide⟩ (by omega) rfl rfl z (qA rfl)
theorem qHQ(hk:12<=k){s:Nat}{f:Nat->Rat}(r:Rw s f)(hb:((List.range (2 ^ s)).all λt=>decide ((f t).den<=999999999999))=true)(M:Mem):Pk (glT gs) Tb.fns Cs k 20 [.lst (RL (2 ^ s) f)] M=.ok ((.lst (RL (2 ^ s) (sh s f)),true),M):=by
 have e15:=qDD (k:=k-1) (by omega) r.s1 r.s5 r.u r.d (M:=M) (.inl rfl) hb;have e21:=T6 s (k-1) f _ M (by have:=r.s5;omega) r.s5 r.r;have z:pxs (glT gs) (Pk (glT gs) Tb.fns Cs (k-1)) [] b20 [some (.lst (RL (2 ^ s) f))] M=.ok (.rt (.lst (RL (2 ^ s) (sh s f)),true),M):=by
  rw[b20]
  repeat' first|with_reducible (first|exact e15|exact e21|exact qS|exact qU|assumption|apply qG|apply qO|apply qN|apply qFN)|assumption|rfl
 exact qe t20 ⟨rfl,by decide⟩ (by omega) rfl rfl z (qA rfl)
theorem qDs(hk:16<=k){s:Nat}{f:Nat->Rat}(r:Rw s f)(hb:((List.range (2 ^ s)).all λt=>decide ((f t).den<=999999999999))=true)(M:Mem):Pk (glT gs) Tb.fns Cs k 49 [.lst (RL (2 ^ s) f),.v (.bl true)] M=.ok (bT true,M):=by
 have e15:=qDD (k:=k-1-1) (by omega) r.s1 r.s5 r.u r.d (M:=M) (.inl rfl) hb;have e20:=qHQ (k:=k-1-1) (by omega) r hb M;have n5:=p5 r.s5;have ln:zG M .len [.lst (RL (2 ^ s) f)]=some (N (2 ^ s),true):=(IsR.len (.inl rfl))
 have e23:=qBL (k:=k-1-1) (by omega) (wF 1) (Nat.two_pow_pos s) M;have lr:O7 (N (2 ^ s))=some ((List.range (2 ^ s)).map N):=qCJ (by omega);have e24:Pk (glT gs) Tb.fns Cs (k-1-1) 24 [.lst (RL (2 ^ s) (sh s f)),.lst ((List.range (2 ^ s)).map N),N 1] M=_:=qD5 (k:=k-1-1) (by omega) (m:=1) r.sz (λp hp=>wY.mp hp) (by rw[vf];exact n5) M;obtain⟨B,hB⟩:∃B,B=NL (jU (sh s f) (List.range (2 ^ s)) 1):=⟨_,rfl⟩
 rw[<-hB]at e24;have e22:Pk (glT gs) Tb.fns Cs (k-1) 22 [.lst (RL (2 ^ s) f),N 1] M=.ok ((B,true),M):=by
  have z:pxs (glT gs) (Pk (glT gs) Tb.fns Cs (k-1-1)) [] b22 [some (.lst (RL (2 ^ s) f)),some (N 1)] M=.ok (.rt (B,true),M):=by
   rw[b22]
   repeat' first|with_reducible (first|exact e15|exact e20|exact ln|exact e23|exact lr|exact e24|exact qS|exact qY|exact ze|exact p0|exact qU|exact isT|assumption|apply qG|apply qO|apply qo|apply qx|apply qA6|apply t_1|apply jb|apply qN|apply qFN)|((with_reducible apply qu);exact cN rfl)|assumption|rfl
  exact qe t22 ⟨rfl,by decide⟩ (by omega) rfl rfl z (qA rfl)
 have i1:qd M .is (.v .non) (.v .non)=some true:=rfl;have z:pxs (glT gs) (Pk (glT gs) Tb.fns Cs (k-1)) [] b49 [some (.lst (RL (2 ^ s) f)),some (.v (.bl true)),none,none] M=.ok (.rt (bT true),M):=by
  rw[b49]
  repeat' first|with_reducible (first|exact e22|exact i1|exact qS|exact qY|exact zH|exact ze|exact p0|exact qU|exact isT|exact zP|assumption|apply qG|apply qO|apply qo|apply qx|apply qA6|apply t_1|apply jb|apply qN|apply qFY)|((with_reducible apply qu);exact cN rfl)|assumption|rfl
 exact qe t49 ⟨rfl,by decide⟩ (by omega) rfl rfl z (qA rfl)
theorem qDh(hk:16<=k){s:Nat}{f:Nat->Rat}(r:Rw s f)(hb:((List.range (2 ^ s)).all λt=>decide ((f t).den<=999999999999))=false)(M:Mem):Pk (glT gs) Tb.fns Cs k 49 [.lst (RL (2 ^ s) f),.v (.bl false)] M=.ok (bT true,M):=by
 have e15:=qGB (k:=k-1-1) (by omega) r.s1 r.s5 r.u r.d (M:=M) (.inl rfl) hb;have e22:Pk (glT gs) Tb.fns Cs (k-1) 22 [.lst (RL (2 ^ s) f),N 1] M=.exc 2 M:=by
  have z:pxs (glT gs) (Pk (glT gs) Tb.fns Cs (k-1-1)) [] b22 [some (.lst (RL (2 ^ s) f)),some (N 1)] M=.exc 2 M:=by
   rw[b22]
   repeat' first|with_reducible (first|exact e15|exact qS|exact ze|exact p0|exact qU|exact isT|exact isF|assumption|apply qG|apply Qc|apply cT|apply f_0|apply jb|apply qIJ)|((with_reducible apply qu);exact cN rfl)|assumption|rfl
  exact qe t22 ⟨rfl,by decide⟩ (by omega) rfl rfl z (Jq _)
 have x1:cnL[2]?=some ("NoRoad":Str):=rfl;have x2:qC7 cnL (.ob (.exn "NoRoad"))=some "NoRoad":=rfl;have x3:(["NoRoad"]:List Str).any (G8 "NoRoad")=true:=by decide +kernel
 have x4:(["ValueError"]:List Str).any (G8 "NoRoad")=true:=by decide +kernel
 have z:pxs (glT gs) (Pk (glT gs) Tb.fns Cs (k-1)) [] b49 [some (.lst (RL (2 ^ s) f)),some (.v (.bl false)),none,none] M=.ok (.rt (bT true),M):=by
  rw[b49]
  repeat' first|with_reducible (first|exact e22|exact x1|exact x2|exact x3|exact x4|exact qS|exact ze|exact p0|exact qU|exact isT|exact isF|exact zP|assumption|apply qG|apply Qc|apply cT|apply f_0|apply jb|apply qN|apply qF5|apply qF7)|((with_reducible apply qu);exact cN rfl)|assumption|rfl
 exact qe t49 ⟨rfl,by decide⟩ (by omega) rfl rfl z (qA rfl)
theorem qDc(hk:1<=k){n:Nat}{w:Nat->Rat}(hw:∀p,p<n->Sz (w p)){Z:Mem}{a1 a2 a3 a4:Option T}:∀(M0:List Nat) (r:Nat) (o:Option T),(∀p∈M0,p<n)->r<n ->
  ∃o',zF [] (.name 6) (pxs (glT gs) (Pk (glT gs) Tb.fns Cs k) [3] qB9) (M0.map N) [some (.lst (RL n w)),a1,a2,a3,a4,some (N r),o] Z=.ok (.nx [some (.lst (RL n w)),a1,a2,a3,a4,some (N (pick w r M0)),o'],Z)
 | [],r,o,_,_=>⟨o,rfl⟩
 |p::M0,r,o,h,hr=>by
  have hp:=h p (by simp);obtain⟨r',hr'⟩:∃r',r'=if w p<w r then p else r:=⟨_,rfl⟩
  have hr2:r'<n:=by rw[hr'];split<;>assumption
  obtain⟨o',e⟩:=qDc hk hw (a1:=a1) (a2:=a2) (a3:=a3) (a4:=a4) (Z:=Z) M0 r' (some (N p)) (λx hx=>h x (by simp[hx])) hr2;refine⟨o',?_⟩;have x1:zr Z (.lst (RL n w)) (N p)=some (R (w p),true):=IsR.idx (.inl rfl) hp;have x2:zr Z (.lst (RL n w)) (N r)=some (R (w r),true):=IsR.idx (.inl rfl) hr;have e1:=qGH (k:=k) hk (hw p hp) (hw r hr) Z;have body:pxs (glT gs) (Pk (glT gs) Tb.fns Cs k) [3] qB9 [some (.lst (RL n w)),a1,a2,a3,a4,some (N r),some (N p)] Z=.ok (.nx [some (.lst (RL n w)),a1,a2,a3,a4,some (N r'),some (N p)],Z):=by
   by_cases q:w p<w r
   ·rw[uG q]at e1;rw[hr',if_pos q];clear q e
    change pxs _ _ _ (.cons _ _) _ _=_
    repeat' first|with_reducible (first|exact x1|exact x2|exact e1|exact qS|exact C4|exact E7|exact qU|exact QJ|exact isT|exact isF|exact JZ|assumption|apply qG|apply qO|apply qm|apply t_1|apply f_0|apply jb)|((with_reducible apply qu);exact cN rfl)|assumption|rfl
   ·rw[uF q]at e1;rw[hr',if_neg q];clear q e
    change pxs _ _ _ (.cons _ _) _ _=_
    repeat' first|with_reducible (first|exact x1|exact x2|exact e1|exact qS|exact C4|exact E7|exact qU|exact QJ|exact isT|exact isF|exact JZ|assumption|apply qG|apply qO|apply qm|apply t_1|apply f_0|apply jb)|((with_reducible apply qu);exact cN rfl)|assumption|rfl
  rw[List.map_cons,zA,st6,body,tD];have:pick w r (p::M0)=pick w r' M0:=by unfold _B.pick;rw[List.foldl_cons,hr']
  rw[this];exact e
theorem Z3{Z:Mem}{L:List Nat}{l:Nat}(hl:L.getLast?=some l):zr Z (NL L) (.v (.int (-1)))=some (N l,true):=by
 obtain⟨ini,rfl⟩:=List.getLast?_eq_some_iff.mp hl;have:_L.ixN ((ini++[l]).map N).length (-1)=some ini.length:=by
  unfold _L.ixN;rw[if_neg (by decide),if_pos (by simp;omega)];congr 1;simp;omega
 rw[show zr Z (NL (ini++[l])) (T.v (.int (-1)))=((_L.ixN ((ini++[l]).map N).length (-1)).bind λj=>(((ini++[l]).map N)[j]?).map λt=>(t,t.lf)) from rfl,this,Option.bind_some];simp
theorem qBG(hk:1<=k){n:Nat}{w:Nat->Rat}(hw:∀p,p<n->Sz (w p)){P:List Nat}(hP:∀p∈P,p<n)(hl:P.length<=32)(hu:P.Pairwise (·<·)){Z:Mem}{a2:Option T}:∀(t i:Nat) (F L:List Nat) (o4 o5 o6:Option T),SelP w P F L->F.length+t<=P.length ->
  ∃F' L' p4 p5 p6,zF [] (.name 4) (pxs (glT gs) (Pk (glT gs) Tb.fns Cs k) [3] qBa) ((List.range' i t).map N) [some (.lst (RL n w)),some (NL L),a2,some (.cell Z.length),o4,o5,o6] (Z++[F.map N])=
   .ok (.nx [some (.lst (RL n w)),some (NL L'),a2,some (.cell Z.length),p4,p5,p6],Z++[F'.map N])/\SelP w P F' L'/\F'.length=F.length+t
 | 0,i,F,L,o4,o5,o6,S,h=>⟨F,L,o4,o5,o6,rfl,S,rfl⟩
 |t+1,i,F,L,o4,o5,o6,S,h=>by
  have ll:F.length+L.length=P.length:=by have:=S.perm.length_eq;simpa using this
  have mem:∀p∈L,p<n:=λp hp=>hP p (S.perm.mem_iff.mp (by simp[hp]));obtain⟨l,hl'⟩:∃l,L.getLast?=some l:=by
   cases e:L.getLast? with
   |none=>rw[List.getLast?_eq_none_iff]at e;subst e;simp at ll;omega
   |some l=>exact⟨l,rfl⟩
  obtain⟨pa,pb⟩:=_B.pick_list w S.up hl';obtain⟨r,hr⟩:∃r,r=pick w l L.reverse:=⟨_,rfl⟩
  rw[<-hr]at pa pb;have S':=S.step (hu.imp λh=>wX h) pa pb;have ix:=Z3 (Z:=Z++[F.map N]) hl';obtain⟨o',e1⟩:=qDc (k:=k) hk hw (Z:=Z++[F.map N]) (a1:=some (NL L)) (a2:=a2) (a3:=some (.cell Z.length)) (a4:=some (N i)) L.reverse l o6 (λp hp=>mem p (by simpa using hp)) (mem l (List.mem_of_getLast? hl'));rw[<-hr,List.map_reverse]at e1;have sr:ZS (Z++[F.map N]) (NL L)=some (L.map N,[]):=rfl;have sr2:Zi (Z++[F.map N]) (NL L)=some (L.map N,[]):=rfl;have c:=jf (M:=Z++[F.map N]) (o:=none) (σ:=[some (N r)]) (its:=L) (c:=pec (glT gs) (Pk (glT gs) Tb.fns Cs k) (.cons (.cmp .ne (.var 0) (.var 1)) .nil)) (e:=pe (glT gs) (Pk (glT gs) Tb.fns Cs k) (.var 0)) (λp=>!decide (p=r)) (λx=>x) (by simp[lim];omega) (λx _=>by simp) (λx hx _=>by simp);rw[vn]at c;have ap:r9 (Z++[F.map N]) Z.length (N r)=some (Z++[(F++[r]).map N]):=by
   rw[qBx,show (Z++[F.map N])[Z.length]?=some (F.map N) by simp,Option.bind_some,if_pos (by rw[wZ];simp[lim];omega),wt _ _ (wF _),vj];simp
  obtain⟨F',L',p4,p5,p6,e2,S2,hF⟩:=qBG hk hw hP hl hu (Z:=Z) (a2:=a2) t (i+1) (F++[r]) (L.filter λx=>!decide (x=r)) (some (N i)) (some (N r)) o' S' (by simp;omega);refine⟨F',L',p4,p5,p6,?_,S2,by rw[hF];simp;omega⟩;have body:pxs (glT gs) (Pk (glT gs) Tb.fns Cs k) [3] qBa [some (.lst (RL n w)),some (NL L),a2,some (.cell Z.length),some (N i),o5,o6] (Z++[F.map N])=.ok (.nx [some (.lst (RL n w)),some (NL (L.filter λx=>!decide (x=r))),a2,some (.cell Z.length),some (N i),some (N r),o'],Z++[(F++[r]).map N]):=by
   have ng:qBV (N 1)=some (T.v (.int (-1)),true):=rfl;clear e2 hF
   change pxs _ _ _ (.cons _ _) _ _=_
   repeat' first|with_reducible (first|exact ng|exact ix|exact sr|exact e1|exact sr2|exact c|exact ap|exact qS|exact qY|exact zo|exact C4|exact ze|exact QJ|exact jp|exact JZ|exact O8 .. | assumption|apply qm|apply zB|apply zm|apply qDx|apply ZV|apply qES|apply qFn)|((with_reducible apply qu);exact cN rfl)|assumption
  rw[vQ,List.map_cons,zA,st4,body,tD];exact e2
theorem qGM(hk:2<=k){n m:Nat}{w:Nat->Rat}(hw:∀p,p<n->Sz (w p)){P:List Nat}(hP:∀p∈P,p<n)(hl:P.length<=32)(hu:P.Pairwise (·<·))(hm:m<=P.length){Z:Mem}(hZ:WfM Z):Pk (glT gs) Tb.fns Cs k 48 [.lst (RL n w),NL P,N m] Z=.ok ((NL (jU w P m),true),Z):=by
 obtain⟨F,L,p4,p5',p6,e,S,hF⟩:=qBG (k:=k-1) (by omega) hw hP hl hu (Z:=Z) (a2:=some (N m)) m 0 [] P none none none (SelP.start hu) (by simpa using hm);rw[<-wz]at e;have hF:F.length=m:=by simpa using hF
 have srt:=S.sorted hu;rw[hF]at srt;have th2:thaw Z.length (.lst [])=(.cell Z.length,[[]]):=rfl;have rg:=zl (n:=m) (by omega);have so:zG (Z++[F.map N]) .sorted [.cell Z.length]=some (NL (jU w P m),true):=by
  show ((T.lis (Z++[F.map N]) (.cell Z.length)).bind λxs=>(zI xs).bind λis=>if is.length<64 then some (T.lst ((isort is).map λi=>T.v (.int i)),true) else none)=_;show (((Z++[F.map N])[Z.length]?).bind _)=_;rw[show (Z++[F.map N])[Z.length]?=some (F.map N) by simp,Option.bind_some,X4,Option.bind_some,if_pos (by rw[wZ];omega),srt,wx];rfl
 have z:pxs (glT gs) (Pk (glT gs) Tb.fns Cs (k-1)) [3] b48 [some (.lst (RL n w)),some (NL P),some (N m),none,none,none,none] Z=.ok (.rt (NL (jU w P m),true),Z++[F.map N]):=by
  rw[b48]
  repeat' first|with_reducible (first|exact th2|exact rg|exact e|exact so|exact zH|exact zo|exact qU|exact ll0|exact zk|assumption|apply qG|apply qx|apply jV|apply jm|apply ZV|apply qN)|((with_reducible apply jX);exact rfl)|assumption|rfl
 exact qe t48 ⟨rfl,by decide⟩ (by omega) rfl rfl z (Q3 hZ (Z6 _ _))
end
end _M
namespace _M
open PySem PySem.Spec _P
open _L (V)
open Fr (U Dv sh wor pr rup rdr Bd)
open _B (qk pick ZQ jU SelP)
section
variable{k:Nat}
theorem qHu(hk:2<=k){q:Rat}(h:Sz q)(M:Mem):Pk (glT gs) Tb.fns Cs k 41 [R q] M=.ok (bT true,M):=f41 hk (Fr.of_low q) (h.mono (by decide)) M
end
theorem Jl:∀(x:Int) (r:List Int),∃M,Y5 (x::r)=some M
 |x,[]=>⟨x,rfl⟩
 |x,y::r=>by
  obtain⟨M,h⟩:=Jl y r;unfold Y5;rw[h];exact⟨_,rfl⟩
theorem qB8{n:Nat}(hn:0<n)(f:Nat->Rat):∃m:Nat,Y5 ((List.range n).map λt=>((f t).den:Int))=some (m:Int)/\decide (m<1000000000000)=(List.range n).all λt=>decide ((f t).den<=999999999999):=by
 obtain⟨n,rfl⟩:∃j,n=j+1:=⟨n-1,by omega⟩
 obtain⟨x,r,hx⟩:∃x r,(List.range (n+1)).map (λt=>((f t).den:Int))=x::r:=by
  rw[List.range_succ_eq_map];exact⟨_,_,rfl⟩
 obtain⟨M,hM⟩:=Jl x r;rw[<-hx]at hM;obtain⟨a,b⟩:=B7 hM;obtain⟨t,ht,e⟩:=vG.mp a;refine⟨(f t).den,by rw[hM,e],?_⟩;rw[wm,uH,wU];constructor
 ·intro h u hu;have:=b _ (vG.mpr ⟨u,hu,rfl⟩);rw[<-e]at this;exact uG (by omega)
 ·intro h;have:=uI (h t ht);omega
section
variable{k:Nat}
theorem qBI(hk:2<=k){M0:Mem}{a0:Option T}{n c m:Nat}{g:Nat->Rat}{SP:List Nat}(hm:SP.length=m)(hc1:1<=c)(hc:c ^ 6<2 ^ 1990){o2 o6 o7 o8 o9 o10 o11 o12:Option T}:∀(q j:Nat) (f:Nat->Rat) (e:Nat->Nat) (o5:Option T),j+q<=m->Bd n c f e->(∀t,e t+(((List.range' j q).map λi=>(SP.getD i 0,g i)).map (·.1)).count t<=6)->(∀p∈(List.range' j q).map (λi=>(SP.getD i 0,g i)),p.1<n/\U p.2/\p.2.den<=c)->∃(p5:Option T),
  zF [] (.name 5) (pxs (glT gs) (Pk (glT gs) Tb.fns Cs k) [3,9,10] qBw) ((List.range' j q).map N) [a0,some (.lst (RL m g)),o2,some (.cell M0.length),some (NL SP),o5,o6,o7,o8,o9,o10,o11,o12] (M0++[RL n f])=.ok (.nx [a0,some (.lst (RL m g)),o2,some (.cell M0.length),some (NL SP),p5,o6,o7,o8,o9,o10,o11,o12],M0++[RL n (rdr ((List.range' j q).map λi=>(SP.getD i 0,g i)) f)])
 | 0,j,f,e,o5,_,_,_,_=>⟨o5,rfl⟩
 |q+1,j,f,e,o5,hj,b,he,hq=>by
  rw[vQ,List.map_cons]at he hq;obtain⟨p1,p2,p4⟩:=hq (SP.getD j 0,g j) (by simp);have he1:∀t,e t<=6:=λt=>wG (vH _ _) (he t);have sa:Sz (f (SP.getD j 0)):=szD (b.u _ p1) (b.den hc1 p1 (he1 _)) hc;have sb:Sz (g j):=szD p2 (wG p4 (Nat.le_self_pow (by decide) c)) hc;obtain⟨p5,ih⟩:=qBI hk (M0:=M0) (a0:=a0) (o2:=o2) (o6:=o6) (o7:=o7) (o8:=o8) (o9:=o9) (o10:=o10) (o11:=o11) (o12:=o12) hm hc1 hc q (j+1) (rup f (SP.getD j 0) (f (SP.getD j 0)*g j)) _ (some (N j)) (by omega) (b.step p1 p2 p4) (λt=>by
   have:=he t;rw[List.map_cons,List.count_cons]at this;by_cases z:t=SP.getD j 0
   ·rw[if_pos z];simp[z]at this ⊢;omega
   ·rw[if_neg z];simp[Ne.symm z]at this ⊢;omega) λx hx=>hq x (wI _ hx)
  refine⟨p5,?_⟩;have ix3:∀{M:Mem},zr M (NL SP) (N j)=some (N (SP.getD j 0),true):=λ{M}=>(IsL.nl M SP).idx (getD_some (by omega));have ix4:∀{M:Mem},zr M (.lst (RL m g)) (N j)=some (R (g j),true):=λ{M}=>IsR.idx (.inl rfl) (by omega);rw[vQ,List.map_cons,List.map_cons,zA,show ∀z:Option T,([a0,some (.lst (RL m g)),o2,some (.cell M0.length),some (NL SP),o5,o6,o7,o8,o9,o10,o11,o12]:TS).set 5 z=[a0,some (.lst (RL m g)),o2,some (.cell M0.length),some (NL SP),z,o6,o7,o8,o9,o10,o11,o12] from λ_=>rfl];rw[show rdr ((SP.getD j 0,g j)::(List.range' (j+1) q).map λi=>(SP.getD i 0,g i)) f=rdr ((List.range' (j+1) q).map λi=>(SP.getD i 0,g i)) (rup f (SP.getD j 0) (f (SP.getD j 0)*g j)) from rfl];generalize SP.getD j 0=i at *;have at_:(M0++[RL n f])[M0.length]?=some (RL n f):=by simp
  have iR:IsR (M0++[RL n f]) (.cell M0.length) n f:=.inr ⟨_,rfl,at_⟩;have ix:=iR.idx p1;have e13:=qG9 (k:=k) hk sa sb (M0++[RL n f]);have pt:Y8 (M0++[RL n f]) (.cell M0.length) (N i) (R (f i*g j))=some (M0++[RL n (rup f i (f i*g j))]):=by
   rw[qAy at_ (by rw[zE];exact p1),wt _ _ (wF _),vj,List.set_cons_zero,qBN]
  have body:pxs (glT gs) (Pk (glT gs) Tb.fns Cs k) [3,9,10] qBw [a0,some (.lst (RL m g)),o2,some (.cell M0.length),some (NL SP),some (N j),o6,o7,o8,o9,o10,o11,o12] (M0++[RL n f])=.ok (.nx [a0,some (.lst (RL m g)),o2,some (.cell M0.length),some (NL SP),some (N j),o6,o7,o8,o9,o10,o11,o12],M0++[RL n (rup f i (f i*g j))]):=by
   clear ih he hq
   change pxs _ _ _ (.cons _ _) _ _=_
   repeat' first|with_reducible (first|exact ix3|exact ix4|exact ix|exact e13|exact pt|exact qY|exact zo|exact E9|exact C4|exact qU|exact QJ|assumption|apply qG|apply qO|apply qm|apply y7)|assumption
  rw[body,tD];exact ih
theorem qBT{M:Mem}(h:FlatM M)(n:Nat)(f:Nat->Rat):FlatM (M++[RL n f]):=h.app λc hc=>by
 rw[wo.mp hc];exact Q9 0 _ _
theorem qDE(hk:13<=k){s:Nat}{A K:List Nat}{g:Nat->Rat}(h:Pn s A K)(hg:Sh s (qD A).length g){M:Mem}(hM:FlatM M){c:Nat}(hc:M[c]?=some (RL (2 ^ s) (rdf A K g))){a0 a1 a2 a4 a5 o8 o9 o10 o11 o12:Option T}:
  pxs (glT gs) (Pk (glT gs) Tb.fns Cs k) [3,9,10] qCG [a0,a1,a2,some (.cell c),a4,a5,some (.lst (RL (2 ^ s) (sh s (rdf A K g)))),some (.lst [.tup [N s,NL A,NL K],.lst (RL (qD A).length g)]),o8,o9,o10,o11,o12] M=.ok (.nx [a0,a1,a2,some (.cell c),a4,a5,some (.lst (RL (2 ^ s) (sh s (rdf A K g)))),some (.lst [.tup [N s,NL A,NL K],.lst (RL (qD A).length g)]),o8,some (.cell M.length),some (.cell (M.length+1)),o11,o12],M++[[],[]]):=by
 have n5:=p5 h.s5;have e32:=qCZ (k:=k) (by omega) h hg hM.wf;have e33:=qBd (k:=k) (by omega) h hg (qBT hM (2 ^ s) (rdf A K g)).wf;have sa:=(Rw.of h hg).zs;have sb:=(Rw.of h hg).sz;generalize rdf A K g=a at *;generalize sh s a=b at *;have th1:thaw M.length (.lst (RL (2 ^ s) a))=(.cell M.length,[RL (2 ^ s) a]):=Zp _ _ _;have th2:thaw (M++[RL (2 ^ s) a]).length (.lst (RL (2 ^ s) b))=(.cell (M.length+1),[RL (2 ^ s) b]):=by rw[Zp,wT];rfl
 obtain⟨M2,hM2⟩:∃M2,M2=M++[RL (2 ^ s) a]++[RL (2 ^ s) b]:=⟨_,rfl⟩
 have c1:M2[M.length]?=some (RL (2 ^ s) a):=by rw[hM2];simp
 have c2:M2[M.length+1]?=some (RL (2 ^ s) b):=by rw[hM2];simp
 have c3:M2[c]?=some (RL (2 ^ s) a):=by
  rw[hM2,wV,wD (wB.mp hc).1];exact hc
 have i1:IsR M2 (.cell M.length) (2 ^ s) a:=.inr ⟨_,rfl,c1⟩;have i2:IsR M2 (.cell (M.length+1)) (2 ^ s) b:=.inr ⟨_,rfl,c2⟩;have ne1:qd M2 .ne (.cell M.length) (.cell c)=some false:=i1.ne (.inr ⟨_,rfl,c3⟩);have ne2:qd M2 .ne (.cell (M.length+1)) (.lst (RL (2 ^ s) b))=some false:=i2.ne (.inl rfl);have t1:zX M2 (.cell M.length)=some "list":=i1.ty;have t2:zX M2 (.cell (M.length+1))=some "list":=i2.ty;have n1:["list"].any (jI "list")=true:=by decide
 obtain⟨L,hL⟩:∃L,L=(List.range (2 ^ s)).map a++(List.range (2 ^ s)).map b:=⟨_,rfl⟩
 have ad:qq M2 .add (.cell M.length) (.cell (M.length+1))=some (.lst (L.map R),true):=by
  show (M2[M.length]?).bind (λxs=>(M2[M.length+1]?).bind λys=>if xs.length+ys.length<=lim then some (lT (xs++ys)) else none)=_;rw[c1,c2,Option.bind_some,Option.bind_some,if_pos (by rw[zE,zE];simp[lim];omega),zp,zp,<-wy,<-hL];unfold lT;rw[Jy]
 have cn:qI [] (.name 0) (pec (glT gs) (Pk (glT gs) Tb.fns Cs k) (.cons (.not (.call 41 (.cons (.var 0) .nil))) .nil)) (pe (glT gs) (Pk (glT gs) Tb.fns Cs k) (.var 0)) (L.map R) [] true [none] M2=.ok ((.lst [],true),M2):=by
  refine S4 rfl (L.map R) [] true none λx hx=>?_;obtain⟨q,hq,rfl⟩:=vG.mp hx;have sq:Sz q:=by
   rw[hL]at hq;rcases wJ.mp hq with y|y
   ·obtain⟨t,ht,rfl⟩:=vG.mp y;exact sa t (wY.mp ht)
   ·obtain⟨t,ht,rfl⟩:=vG.mp y;exact sb t (wY.mp ht)
  have:=qHu (k:=k) (by omega) sq M2;simp[i6,this,bT]
 have ne0:qd M2 .ne (.lst []) (.lst [])=some false:=rfl;have mc1:ZA .clr M.length [] M2=some ((.v .non,true),M2.set M.length []):=by
  show (M2[M.length]?).map _=_;rw[c1];rfl
 have c2':(M2.set M.length [])[M.length+1]?=some (RL (2 ^ s) b):=by rw[wW (by omega)];exact c2
 have mc2:ZA .clr (M.length+1) [] (M2.set M.length [])=some ((.v .non,true),M++[[],[]]):=by
  show ((M2.set M.length [])[M.length+1]?).map _=_;rw[c2',Option.map_some];have:(M2.set M.length []).set (M.length+1) []=M++[[],[]]:=by
   rw[hM2,wV,wt _ _ (wF _),vj,wt _ _ (by omega),show M.length+1-M.length=1 by omega];rfl
  rw[this]
 have y0:∀{M:Mem},zr M (.lst [.tup [N s,NL A,NL K],.lst (RL (qD A).length g)]) (N 0)=some (.tup [N s,NL A,NL K],T.lf (.tup [N s,NL A,NL K])):=λ{M}=>Je rfl;have y1:∀{M:Mem},zr M (.lst [.tup [N s,NL A,NL K],.lst (RL (qD A).length g)]) (N 1)=some (.lst (RL (qD A).length g),T.lf (.lst (RL (qD A).length g))):=λ{M}=>Je rfl;rw[hM2]at ne1 ne2 t1 t2 ad cn ne0 mc1 mc2;clear i1 i2 c1 c2 c3 c2' sa sb hL hc
 change pxs _ _ _ (.cons _ _) _ _=_
 repeat' first|with_reducible (first|exact y0|exact y1|exact e32|exact e33|exact th1|exact th2|exact ne1|exact ne2|exact t1|exact t2|exact n1|exact ad|exact cn|exact ne0|exact mc1|exact mc2|exact qEC .. | exact qS|exact zo|exact E7|exact m8|exact qF3|exact qDV|exact ze|exact qU|exact QJ|exact isF|exact ll0|exact qFG|exact qCj|assumption|apply qG|apply qO|apply qm|apply zJ|apply qo|apply jV|apply zB|apply QG|apply O6|apply qFz|apply zm|apply cF|apply f_0|apply jb|apply qE2|apply A6|apply Je)|((with_reducible apply jX);exact rfl)|assumption|exact nF rfl|rfl
end
end _M
namespace _M
open PySem PySem.Spec _P
open _L (V)
open Fr (U Dv sh wor pr rup rdr Bd)
open _B (qk pick ZQ jU SelP)
theorem v8{M:Mem}{d:Nat}{a b c x y z:T}(h1:eqT M d a x=some true)(h2:eqT M d b y=some true)(h3:eqT M d c z=some true):eqT M (d+1) (.tup [a,b,c]) (.tup [x,y,z])=some true:=by
 unfold eqT;dsimp only[T.isV,T.lis,T.its];rw[if_pos (by rfl)];unfold qf qf qf qf;rw[h1,h2,h3];rfl
theorem q9{M:Mem}{d:Nat}{a b x y:T}(h1:eqT M d a x=some true)(h2:eqT M d b y=some true):eqT M (d+1) (.lst [a,b]) (.lst [x,y])=some true:=by
 have h:IsS M (.lst [a,b]) [a,b]:=.inl rfl;have k:IsS M (.lst [x,y]) [x,y]:=.inl rfl;rw[h.eqT k rfl (bs:=[true,true]) (by unfold qf qf qf;simp[h1,h2])];rfl
theorem qCH{M:Mem}{s m:Nat}{A K:List Nat}{g:Nat->Rat}:qd M .eq (.lst [.tup [N s,NL A,NL K],.lst (RL m g)]) (.lst [.tup [N s,NL A,NL K],.lst (RL m g)])=some true:=by
 have g0:eqT M 2 (N s) (N s)=some true:=(ZD (d:=1) (s:Int) (s:Int)).trans (by rw[uG rfl]);have g1:∀A:List Nat,eqT M 2 (NL A) (NL A)=some true:=λA=>by rw[h9,uG rfl]
 have h3:eqT M 3 (.lst (RL m g)) (.lst (RL m g))=some true:=IsR.eqT (d:=0) (.inl rfl) (.inl rfl) λ_ _=>rfl;unfold qd;dsimp only;exact q9 (v8 g0 (g1 A) (g1 K)) h3
section
variable{k:Nat}
theorem qEh(hk:13<=k){s:Nat}{A K:List Nat}{g:Nat->Rat}(h:Pn s A K)(hg:Sh s (qD A).length g){M:Mem}(hM:FlatM M){c:Nat}(hc:M[c]?=some (RL (2 ^ s) (rdf A K g))){a0 a1 a2 a4 a5 o8 o9 o10 o11 o12:Option T}:∃p9 p10,
  zF [] (.name 8) (pxs (glT gs) (Pk (glT gs) Tb.fns Cs k) [3,9,10] qCG) ((List.range 2).map N) [a0,a1,a2,some (.cell c),a4,a5,some (.lst (RL (2 ^ s) (sh s (rdf A K g)))),some (.lst [.tup [N s,NL A,NL K],.lst (RL (qD A).length g)]),o8,o9,o10,o11,o12] M=.ok (.nx [a0,a1,a2,some (.cell c),a4,a5,some (.lst (RL (2 ^ s) (sh s (rdf A K g)))),some (.lst [.tup [N s,NL A,NL K],.lst (RL (qD A).length g)]),some (N 1),p9,p10,o11,o12],M++[[],[],[],[]]):=by
 have e1:=qDE hk h hg hM hc (a0:=a0) (a1:=a1) (a2:=a2) (a4:=a4) (a5:=a5) (o8:=some (N 0)) (o9:=o9) (o10:=o10) (o11:=o11) (o12:=o12);have fl:FlatM (M++[[],[]]):=hM.app λx hx=>by
  simp only[wL,wg,or_false]at hx;rcases hx with rfl|rfl<;>rfl
 have hc2:(M++[[],[]])[c]?=some (RL (2 ^ s) (rdf A K g)):=by rw[wD (wB.mp hc).1];exact hc
 have e2:=qDE hk h hg fl hc2 (a0:=a0) (a1:=a1) (a2:=a2) (a4:=a4) (a5:=a5) (o8:=some (N 1)) (o9:=some (.cell M.length)) (o10:=some (.cell (M.length+1))) (o11:=o11) (o12:=o12);have st:∀(a b c d e f g h i j l m n z:Option T),([a,b,c,d,e,f,g,h,i,j,l,m,n]:TS).set 8 z=[a,b,c,d,e,f,g,h,z,j,l,m,n]:=λ_ _ _ _ _ _ _ _ _ _ _ _ _ _=>rfl;refine⟨some (.cell (M++[[],[]]).length),some (.cell ((M++[[],[]]).length+1)),?_⟩;rw[show (List.range 2).map N=[N 0,N 1] from rfl,zA,st,e1,tD];dsimp only;rw[zA,st,e2,tD,wV];rfl
theorem ga(hk:17<=k){s:Nat}{f:Nat->Rat}(r:Rw s f){M:Mem}{c:Nat}(hc:M[c]?=some (RL (2 ^ s) f)){a0 a1 a2 a4 a5 a7 a8 a9 a10 a11 a12:Option T}:px (glT gs) (Pk (glT gs) Tb.fns Cs k) [3,9,10] qGj [a0,a1,a2,some (.cell c),a4,a5,some (.lst (RL (2 ^ s) (sh s f))),a7,a8,a9,a10,a11,a12] M=.ok (.nx [a0,a1,a2,some (.cell c),a4,a5,some (.lst (RL (2 ^ s) (sh s f))),a7,a8,a9,a10,a11,a12],M):=by
 have n5:=p5 r.s5;have iR:IsR M (.cell c) (2 ^ s) f:=.inr ⟨_,rfl,hc⟩;obtain⟨d,s1,s2⟩:=iR.src;have cm:qI d (.name 0) (pec (glT gs) (Pk (glT gs) Tb.fns Cs k) .nil) (pe (glT gs) (Pk (glT gs) Tb.fns Cs k) (.idx (.var 0) (nE 1))) (RL (2 ^ s) f) [] true [none] M=.ok ((.lst ((List.range (2 ^ s)).map λt=>N (f t).den),true),M):=by
  have:=E4 (gl:=glT gs) (P:=Pk (glT gs) Tb.fns Cs k) (e:=pe (glT gs) (Pk (glT gs) Tb.fns Cs k) (.idx (.var 0) (nE 1))) (M:=M) (σ:=[]) s2 (λt=>R (f t)) (λt=>N (f t).den) (List.range (2 ^ s)) [] true none (by simp[lim];omega) λt ht=>by
   simp[i6,R1];rfl
  exact this
 obtain⟨m,hm,hx⟩:=qB8 (n:=2 ^ s) (Nat.two_pow_pos s) f;have mx:zG M .maxl [.lst ((List.range (2 ^ s)).map λt=>N (f t).den)]=some (N m,true):=by
  show ((some ((List.range (2 ^ s)).map λt=>N (f t).den)).bind λxs=>(zI xs).bind λis=>(Y5 is).map iT)=_;have:((List.range (2 ^ s)).map λt=>N (f t).den)=((List.range (2 ^ s)).map λt=>(f t).den).map N:=by rw[wx];rfl
  rw[Option.bind_some,this,X4,Option.bind_some,wx];rw[show ((λ(n:Nat)=>(n:Int))∘λt=>(f t).den)=λt=>((f t).den:Int) from rfl,hm];rfl
 have pw:∀{M:Mem},qq M .pow (N 10) (N 12)=some (N 1000000000000,true):=λ{M}=>by rw[G6 (by decide)]
 have lt:qd M .lt (N m) (N 1000000000000)=some (decide (m<1000000000000)):=QN ..;rw[hx]at lt;have ls:zG M .list [.cell c]=some (.lst (RL (2 ^ s) f),true):=by
  show (M[c]?).map lT=_;rw[hc,Option.map_some];unfold lT;rw[R8]
 clear hx hm s2;rw[<-F2,qGj];cases hb:(List.range (2 ^ s)).all λt=>decide ((f t).den<=999999999999) with
 |true=>
  rw[hb]at lt;have e20:=qHQ (k:=k) (by omega) r hb M;have e49:=qDs (k:=k) (by omega) r hb M;have ne:qd M .ne (.lst (RL (2 ^ s) (sh s f))) (.lst (RL (2 ^ s) (sh s f)))=some false:=qFi _ _;clear hb
  repeat' first|with_reducible (first|exact s1|exact cm|exact mx|exact pw|exact lt|exact ls|exact e20|exact e49|exact ne|exact qS|exact zo|exact E7|exact ze|exact qGz|exact qU|exact QJ|exact isT|exact isF|exact QN .. | assumption|apply qG|apply qO|apply zJ|apply qo|apply qx|apply zB|apply QG|apply O6|apply zm|apply cF|apply t_1|apply f_0|apply f_1|apply jb)|assumption|exact nF rfl|rfl
 |false=>
  rw[hb]at lt;have e49:=qDh (k:=k) (by omega) r hb M;clear hb
  repeat' first|with_reducible (first|exact s1|exact cm|exact mx|exact pw|exact lt|exact ls|exact e49|exact qS|exact zo|exact E7|exact ze|exact qGz|exact qU|exact QJ|exact isT|exact isF|exact QN .. | assumption|apply qG|apply qO|apply zJ|apply qo|apply qx|apply zB|apply QG|apply O6|apply zm|apply cF|apply t_1|apply f_0|apply f_1|apply jb)|assumption|exact nF rfl|rfl
theorem gb(hk:13<=k){s m:Nat}{A K:List Nat}{g:Nat->Rat}(h:Pn s A K)(hg:Sh s (qD A).length g){M:Mem}(hW:WfM M){a0 a1 a3 a4 a5 a8 a9 a10 a12:Option T}:∃p2 p12,px (glT gs) (Pk (glT gs) Tb.fns Cs k) [3,9,10] qFV [a0,a1,some (N m),a3,a4,a5,some (.lst (RL (2 ^ s) (sh s (rdf A K g)))),some (.lst [.tup [N s,NL A,NL K],.lst (RL (qD A).length g)]),a8,a9,a10,some (NL (lft s K)),a12] M=.ok (.nx [a0,a1,p2,a3,a4,a5,some (.lst (RL (2 ^ s) (sh s (rdf A K g)))),some (.lst [.tup [N s,NL A,NL K],.lst (RL (qD A).length g)]),a8,a9,a10,some (NL (lft s K)),p12],M):=by
 have ne0:qd M .ne (NL (lft s K)) (.lst [])=some (!decide (lft s K=[])):=qGv _ [];by_cases h0:lft s K=[]
 ·rw[uG h0]at ne0;refine⟨some (N m),a12,?_⟩;rw[<-F2,qFV];clear h0
  repeat' first|with_reducible (first|exact ne0|exact zH|exact E7|exact m8|exact qA5|exact ze|exact qU|exact QJ|exact isF|exact ll0|exact zP|exact zZ .. | assumption|apply qG|apply qO|apply qm|apply zJ|apply qo|apply qx|apply jV|apply QG|apply O6|apply cF|apply t_3|apply f_0|apply jb|apply Je)|((with_reducible apply qu);exact cN rfl)|assumption|exact nF rfl|rfl
 ·rw[uF h0]at ne0;have lp:0<(lft s K).length:=List.length_pos_iff.mpr h0;have ml:=vd m lp;obtain⟨q,hq⟩:∃q,q=1+m % (lft s K).length:=⟨_,rfl⟩
  have e34:=best_ (k:=k) (by omega) h hg (m:=q) (by omega) (by omega) hW;have e48:=qGM (k:=k) (by omega) (Rw.of h hg).sz (P:=lft s K) qBF (V9 h.s5) (qEU s K) (m:=q) (by omega) hW;have ln2:zG M .len [NL (lft s K)]=some (N (lft s K).length,true):=(IsL.nl M _).len;have md:qq M .mod (N m) (N (lft s K).length)=some (N (m % (lft s K).length),true):=jz lp;have ad:qq M .add (N 1) (N (m % (lft s K).length))=some (N q,true):=by rw[hq];exact zZ _ _
  have y0:∀{M:Mem},zr M (.lst [.tup [N s,NL A,NL K],.lst (RL (qD A).length g)]) (N 0)=some (.tup [N s,NL A,NL K],T.lf (.tup [N s,NL A,NL K])):=λ{M}=>Je rfl;have y1:∀{M:Mem},zr M (.lst [.tup [N s,NL A,NL K],.lst (RL (qD A).length g)]) (N 1)=some (.lst (RL (qD A).length g),T.lf (.lst (RL (qD A).length g))):=λ{M}=>Je rfl;obtain⟨B,hB⟩:∃B,B=jU (sh s (rdf A K g)) (lft s K) q:=⟨_,rfl⟩
  rw[<-hB]at e34 e48;have ne1:qd M .ne (NL B) (NL B)=some false:=(qGv B B).trans (by rw[uG rfl];rfl);have ty:zX M (NL B)=some "list":=rfl;have n1:["list"].any (jI "list")=true:=by decide
  refine⟨some (N q),some (NL B),?_⟩;rw[<-F2,qFV];clear h0 lp ml hq hB
  repeat' first|with_reducible (first|exact qE1|exact qCt|exact ne0|exact ln2|exact md|exact ad|exact y0|exact y1|exact e34|exact e48|exact ne1|exact ty|exact n1|exact zH|exact E7|exact m8|exact qA5|exact ze|exact qU|exact QJ|exact isF|exact ll0|exact zP|exact zZ .. | assumption|apply qG|apply qO|apply qm|apply zJ|apply qo|apply qx|apply jV|apply QG|apply O6|apply cF|apply t_3|apply f_0|apply jb|apply A6|apply Je)|((with_reducible apply qu);exact cN rfl)|assumption|exact nF rfl|exact nT rfl|rfl
theorem qDu(hk:18<=k){s m:Nat}{A K:List Nat}{g:Nat->Rat}(h:Pn s A K)(hg:Sh s (qD A).length g){M:Mem}(hM:FlatM M):Pk (glT gs) Tb.fns Cs k 50 [.tup [N s,NL A,NL K],.lst (RL (qD A).length g),N m] M=.ok (bT true,M):=by
 have n5:=p5 h.s5;have sl:=ZI (A:=A) (by rw[h.len];exact n5);have ln:zG M .len [NL A]=some (N (2 ^ s),true):=by rw[(IsL.nl M A).len,h.len]
 have rg:=zl (n:=2 ^ s) (by omega);have c:qI [] (.name 0) (pec (glT gs) (Pk (glT gs) Tb.fns Cs (k-1)) .nil) (pe (glT gs) (Pk (glT gs) Tb.fns Cs (k-1)) (.idx (.lst (.cons (.tup (.cons (nE 1) (.cons (nE 1) .nil))) (.cons (.tup (.cons (nE 0) (.cons (nE 1) .nil))) .nil))) (.blt .int (.cons (.cmp .inn (.var 0) (.idx (.var 1) (nE 2))) .nil)))) ((List.range (2 ^ s)).map N) [] true [none,some (.tup [N s,NL A,NL K])] M=.ok ((.lst (RL (2 ^ s) (fz K)),true),M):=by
  have z:=J2 (gl:=glT gs) (P:=Pk (glT gs) Tb.fns Cs (k-1)) (M:=M) (σ:=[some (.tup [N s,NL A,NL K])]) (e:=pe (glT gs) (Pk (glT gs) Tb.fns Cs (k-1)) (.idx (.lst (.cons (.tup (.cons (nE 1) (.cons (nE 1) .nil))) (.cons (.tup (.cons (nE 0) (.cons (nE 1) .nil))) .nil))) (.blt .int (.cons (.cmp .inn (.var 0) (.idx (.var 1) (nE 2))) .nil)))) N (λt=>R (fz K t)) (λ_=>true) (List.range (2 ^ s)) [] true none (by simp[lim];omega) (λx _=>by
   have i:∀{M:Mem},qd M .inn (N x) (NL K)=some (decide (x∈K)):=λ{M}=>qGJ x K;unfold fz;by_cases q:x∈K
   ·rw[uG q]at i;rw[if_pos q];have ih:zr M (.lst [T.tup [N 1,N 1],T.tup [N 0,N 1]]) (N 1)=some (R 0,true):=rfl;have it:zG M .int [T.v (.bl true)]=some (N 1,true):=rfl;clear q
    change pe _ _ _ [some _,some _] _=_
    repeat' first|with_reducible (first|exact i|exact lk2 .. | exact ih|exact it|exact qS|exact qY|exact ze|exact qU|exact ll2|exact ll3|assumption|apply qG|apply qO|apply qm|apply qo|apply qx|apply jV|apply ZG|apply zB|apply jm|apply ZV|apply K9)|((with_reducible apply qu);exact cN rfl)|((with_reducible apply jX);exact rfl)|assumption|exact cT rfl|exact cF rfl|rfl
   ·rw[uF q]at i;rw[if_neg q];have ih:zr M (.lst [T.tup [N 1,N 1],T.tup [N 0,N 1]]) (N 0)=some (R 1,true):=rfl;have it:zG M .int [T.v (.bl false)]=some (N 0,true):=rfl;clear q
    change pe _ _ _ [some _,some _] _=_
    repeat' first|with_reducible (first|exact i|exact lk2 .. | exact ih|exact it|exact qS|exact qY|exact ze|exact qU|exact ll2|exact ll3|assumption|apply qG|apply qO|apply qm|apply qo|apply qx|apply jV|apply ZG|apply zB|apply jm|apply ZV|apply K9)|((with_reducible apply qu);exact cN rfl)|((with_reducible apply jX);exact rfl)|assumption|exact cT rfl|exact cF rfl|rfl)
  rw[show ((List.range (2 ^ s)).all λ_=>true)=true from wU.mpr λ_ _=>rfl,List.nil_append]at z;exact z
 have th:thaw M.length (.lst (RL (2 ^ s) (fz K)))=(.cell M.length,[RL (2 ^ s) (fz K)]):=Zp _ _ _;have e45:=qBH (k:=k-1) (by omega) (M:=M++[RL (2 ^ s) (fz K)]) (s:=s) (tk:=NL K) (A:=A) (ta:=NL A) (.inl rfl) (by rw[h.len];exact n5);have ln2:∀{M:Mem},zG M .len [NL (qD A)]=some (N (qD A).length,true):=λ{M}=>(IsL.nl M _).len;have rg2:=zl (n:=(qD A).length) (by omega);obtain⟨q5,e1⟩:=qBI (k:=k-1) (by omega) (M0:=M) (a0:=some (.tup [N s,NL A,NL K])) (o2:=some (N m)) (o6:=none) (o7:=none) (o8:=none) (o9:=none) (o10:=none) (o11:=none) (o12:=none) (SP:=qD A) (g:=g) rfl (qGA s) (qFW s) (qD A).length 0 (fz K) (λ_=>0) none (by omega) (bd0 (2 ^ s) _ K) (λt=>by
  have:=qGO (A:=A) (g:=g) t;unfold prz at this
  rwa [wz]at this) (by
  have:=i8 h hg;unfold prz at this
  rwa [wz]at this)
 rw[<-wz]at e1;have e1:zF _ _ _ _ _ _=.ok (.nx [_,_,_,_,_,_,_,_,_,_,_,_,_],M++[RL (2 ^ s) (rdf A K g)]):=e1;have r:=Rw.of h hg;have fl:=qBT hM (2 ^ s) (rdf A K g);have hc:(M++[RL (2 ^ s) (rdf A K g)])[M.length]?=some (RL (2 ^ s) (rdf A K g)):=by simp
 have e46:=Y4 s (k-1) (rdf A K g) _ (.cell M.length) (M++[RL (2 ^ s) (rdf A K g)]) (by have:=h.s5;omega) h.s5 r.r fl (λB=>by
  show (M++[RL (2 ^ s) (rdf A K g)]++B)[M.length]?=_;rw[wV];simp)
 obtain⟨p9,p10,e2⟩:=qEh (k:=k-1) (by omega) h hg fl hc (a0:=some (.tup [N s,NL A,NL K])) (a1:=some (.lst (RL (qD A).length g))) (a2:=some (N m)) (a4:=some (NL (qD A))) (a5:=q5) (o8:=none) (o9:=none) (o10:=none) (o11:=none) (o12:=none);obtain⟨M4,hM4⟩:∃M4,M4=M++[RL (2 ^ s) (rdf A K g)]++[[],[],[],[]]:=⟨_,rfl⟩
 rw[<-hM4]at e2;have fl4:FlatM M4:=by
  rw[hM4];refine fl.app λx hx=>?_;simp only[wL,wg,or_false]at hx;rcases hx with rfl|rfl|rfl|rfl<;>rfl
 have hc4:M4[M.length]?=some (RL (2 ^ s) (rdf A K g)):=by rw[hM4,wD (by simp)];exact hc
 have qa:=ga (k:=k-1) (by omega) r hc4 (a0:=some (.tup [N s,NL A,NL K])) (a1:=some (.lst (RL (qD A).length g))) (a2:=some (N m)) (a4:=some (NL (qD A))) (a5:=q5) (a7:=some (.lst [.tup [N s,NL A,NL K],.lst (RL (qD A).length g)])) (a8:=some (N 1)) (a9:=p9) (a10:=p10) (a11:=none) (a12:=none);obtain⟨p2,p12,qb⟩:=gb (k:=k-1) (by omega) h hg fl4.wf (m:=m) (a0:=some (.tup [N s,NL A,NL K])) (a1:=some (.lst (RL (qD A).length g))) (a3:=some (.cell M.length)) (a4:=some (NL (qD A))) (a5:=q5) (a8:=some (N 1)) (a9:=p9) (a10:=p10) (a12:=none);have ln4:zG M4 .len [.cell M.length]=some (N (2 ^ s),true):=IsR.len (.inr ⟨_,rfl,hc4⟩);have lc:=qEB (M:=M4) (P:=Pk (glT gs) Tb.fns Cs (k-1)) h.s5 (A:=A) (K:=K);have eh:=qCH (M:=M4) (s:=s) (m:=(qD A).length) (A:=A) (K:=K) (g:=g);have l1:∀{M:Mem}{A:List Nat},zG M .list [NL A]=some (NL A,true):=λ{M A}=>congrArg some (qG1 A);have l2:∀{M:Mem},zG M .list [.lst (RL (qD A).length g)]=some (.lst (RL (qD A).length g),true):=λ{M}=>by
  show some (lT _)=_;unfold lT;rw[R8]
 have rg3:=zl (n:=2) (by decide);clear hc hc4 fl r n5 sl;have z:pxs (glT gs) (Pk (glT gs) Tb.fns Cs (k-1)) [3,9,10] b50 [some (.tup [N s,NL A,NL K]),some (.lst (RL (qD A).length g)),some (N m),none,none,none,none,none,none,none,none,none,none] M=.ok (.rt (bT true),M4):=by
  clear fl4 hM4
  rw[b50]
  repeat' first|with_reducible (first|exact ln|exact rg|exact c|exact th|exact e45|exact ln2|exact rg2|exact e1|exact e46|exact l1|exact l2|exact rg3|exact e2|exact ln4|exact lc|exact eh|exact qS|exact qY|exact zo|exact E9|exact m8|exact ze|exact qU|exact ll2|exact ll3|exact zk|exact Jo|exact qAf|exact qEv|exact qCO|assumption|apply qG|apply qO|apply qm|apply qo|apply qx|apply jV|apply ZG|apply zB|apply jm|apply ZV|apply qN|apply K9)|((with_reducible apply qu);exact cN rfl)|((with_reducible apply jX);exact rfl)|assumption|rfl|((with_reducible apply qHC);with_reducible assumption)
 refine qe t50 ⟨rfl,by decide⟩ (by omega) rfl rfl z ?_;rw[hM4,wV];exact qBn rfl hM.wf
end
end _M
namespace _M
open PySem PySem.Spec _P
open _L (V)
open Fr (U Dv sh wor pr rup rdr Bd)
open _B (qk pick ZQ jU SelP)
theorem M8{gl:List T}{P:Nat->List T->Mem->PR (TB×Mem)}{e:TS->Mem->PR (TB×Mem)}{σ:TS}{J:Mem->Prop}{Pr:Rat->Prop}:∀(its:List T) (ys:List Rat) (b:Bool) (o:Option T) (M:Mem),ys.length+its.length<=lim->J M ->
  (∀x∈its,∀M,J M->∃q M',e (some x::σ) M=.ok ((R q,true),M')/\J M'/\Pr q) ->
  ∃zs M',qI [] (.name 0) (pec gl P .nil) e its (ys.map R) b (o::σ) M=.ok ((.lst ((ys++zs).map R),b),M')/\J M'/\zs.length=its.length/\∀z∈zs,Pr z
 | [],ys,b,o,M,hl,hI,he=>⟨[],M,by simp[qI],hI,rfl,λy hy=>by simp at hy⟩
 |x::r,ys,b,o,M,hl,hI,he=>by
  obtain⟨y,M1,e1,i1,r1⟩:=he x (wM ..) M hI;rw[qI];rw[show zL (.name 0) x (o::σ)=some (some x::σ) from rfl];dsimp only;rw[Zw,tD];dsimp only;rw[if_pos rfl,e1,tD];dsimp only;rw[if_pos ⟨by simp at hl ⊢;omega,rfl⟩];obtain⟨K,M2,e2,i2,l2,r2⟩:=M8 (gl:=gl) (P:=P) (J:=J) (Pr:=Pr) r (ys++[y]) b (some x) M1 (by simp at hl ⊢;omega) i1 (λy hy=>he y (wI _ hy));refine⟨y::K,M2,?_,i2,by simp[l2],λz hz=>?_⟩
  ·rw[show ys.map R++[R y]=(ys++[y]).map R by simp,vY,e2];simp
  ·rcases wL.mp hz with h1|h1
   ·rw[h1];exact r1
   ·exact r2 z h1
theorem qGS(zs:List Rat):zs.map R=RL zs.length λt=>zs.getD t 0:=by
 refine vp λi=>?_;by_cases h:i<zs.length
 ·rw[Qn h,wj,wE h,wa,wE h];rfl
 ·rw[wd (by simp;omega),wd (by rw[zE];omega)]
section
variable{k:Nat}
theorem pw6{M:Mem}:qq M .pow (N 10) (N 6)=some (N 1000000,true):=by rw[G6 (by decide)]
theorem qH6{M:Mem}:qq M .pow (N 10) (N 12)=some (N 1000000000000,true):=by rw[G6 (by decide)]
noncomputable def qCd(most:Nat):Nat:=if most=4 then 9 else 999999999999
theorem qG4(hk:2<=k){M:Mem}{n m:Nat}(g:qAi M n)(hm:0<m):∃d M',Pk (glT gs) Tb.fns Cs k 42 [.cell n,N m] M=.ok ((N d,true),M')/\d<m/\Kept n M M':=by
 obtain⟨d1,M1,e1,h1,k1⟩:=out (k:=k-1) (by omega) g (m:=1000000) (by decide);obtain⟨d2,M2,e2,h2,k2⟩:=out (k:=k-1) (by omega) k1.good (m:=1000000) (by decide);refine⟨(d1*1000000+d2) % m,M2,?_,vd _ hm,k1.trans k2⟩;rw[zK t42 ⟨rfl,by decide⟩ (by omega),b42,show Cs.getD 42 []=[] from rfl];have m2:∀{M:Mem},qq M .mul (N d1) (N 1000000)=some (N (d1*1000000),true):=λ{M}=>Jm (.inr (by decide));have md:∀{M:Mem}(x:Nat),qq M .mod (N x) (N m)=some (N (x % m),true):=λ{M} x=>jz hm;simp[pw6,e1,e2,m2,md];rw[qA (k1.trans k2).len]
theorem qGD(hk:3<=k){M:Mem}{n most:Nat}(g:qAi M n)(hm:most=4\/most=6):∃q M',Pk (glT gs) Tb.fns Cs k 43 [.cell n,N most] M=.ok ((R q,true),M')/\Kept n M M'/\U q/\q.den<=qCd most:=by
 obtain⟨w,M1,e1,h1,k1⟩:=out (k:=k-1) (by omega) g (m:=most) (by omega);have lc:9<=qCd most:=by unfold qCd;split<;>omega
 by_cases hw:w<3
 ·have:∃q:Rat,[T.tup [N 1,N 2],.tup [N 0,N 1],.tup [N 1,N 1]][w]?=some (R q)/\U q/\q.den<=9:=by
   have:w=0\/w=1\/w=2:=by omega
   rcases this with rfl|rfl|rfl
   ·exact⟨Rat.divInt ((1:Nat):Int) ((2:Nat):Int),rfl,(Fr.div_U (by decide) (by decide)).1,by decide⟩
   ·exact⟨0,rfl,⟨by grind,by grind⟩,by decide⟩
   ·exact⟨1,rfl,⟨by grind,by grind⟩,by decide⟩
  obtain⟨q,hq,u,d⟩:=this;refine⟨q,M1,?_,k1,u,by omega⟩;have c3:∀{M:Mem},qd M .lt (N w) (N 3)=some true:=λ{M}=>by rw[QN,uG hw]
  clear hw;have ih:zr M1 (.lst [T.tup [N 1,N 2],.tup [N 0,N 1],.tup [N 1,N 1]]) (N w)=some (R q,true):=by rw[Je hq,i6]
  have z:pxs (glT gs) (Pk (glT gs) Tb.fns Cs (k-1)) [] b43 [some (.cell n),some (N most),none,none] M=.ok (.rt (R q,true),M1):=by
   rw[b43]
   repeat' first|with_reducible (first|exact e1|exact c3|exact ih|exact qS|exact qY|exact zH|exact zo|exact ze|exact qU|exact isT|exact isF|exact ll2|exact ll3|exact zP|exact zk|exact zZ .. | exact QN .. | assumption|apply qG|apply qO|apply qm|apply zJ|apply qo|apply jV|apply ZG|apply t_1|apply f_0|apply jb|apply qN|apply Je)|((with_reducible apply qu);exact cN rfl)|assumption|exact nF rfl|exact nT rfl|rfl
  exact qe t43 ⟨rfl,by decide⟩ (by omega) rfl rfl z (qA k1.len)
 ·obtain⟨v,hv,hv1,hv2⟩:∃v,[N 9,N 99,N 999999999999][w-3]?=some (N v)/\0<v/\v<=qCd most:=by
   rcases hm with rfl|rfl
   ·have:w=3:=by omega
    subst this;exact⟨9,rfl,by decide,by decide⟩
   ·have:w=3\/w=4\/w=5:=by omega
    rcases this with rfl|rfl|rfl
    ·exact⟨9,rfl,by decide,by decide⟩
    ·exact⟨99,rfl,by decide,by decide⟩
    ·exact⟨999999999999,rfl,by decide,by decide⟩
  have hcap:qCd most<=999999999999:=by unfold qCd;split<;>omega
  obtain⟨d2,M2,e2,h2,k2⟩:=qG4 (k:=k-1) (by omega) k1.good (m:=v) hv1;obtain⟨d3,M3,e3,h3,k3⟩:=qG4 (k:=k-1) (by omega) k2.good (m:=1+d2+1) (by omega);have sb:Sm 4100 ((1+d2:Nat):Int):=by
   unfold Sm;rw[Int.natAbs_natCast];exact wk (show 1+d2<=999999999999 by omega) (by decide)
  have e4:=f38 (k:=k-1) (by omega) (t:=(d3:Int)) (b:=((1+d2:Nat):Int)) (by omega) sb M3;rw[Fr.red_of (by omega)]at e4;obtain⟨u,dv⟩:=Fr.div_U (t:=d3) (b:=1+d2) (by omega) (by omega);refine⟨Rat.divInt (d3:Int) ((1+d2:Nat):Int),M3,?_,(k1.trans k2).trans k3,u,wG (Fr.dv_le dv (by omega)) (by omega)⟩;have s1:∀{M:Mem},qq M .sub (N 1000000000000) (N 1)=some (N 999999999999,true):=λ{M}=>qAt (by decide);have s2:∀{M:Mem},qq M .sub (N w) (N 3)=some (N (w-3),true):=λ{M}=>qAt (by omega);have e4:Pk (glT gs) Tb.fns Cs (k-1) 38 [N d3,N (1+d2)] M3=.ok ((R (Rat.divInt (d3:Int) ((1+d2:Nat):Int)),true),M3):=e4;generalize R (Rat.divInt (d3:Int) ((1+d2:Nat):Int))=r at *;have c3:qd M1 .lt (N w) (N 3)=some false:=by rw[QN,uF hw]
  have z:pxs (glT gs) (Pk (glT gs) Tb.fns Cs (k-1)) [] b43 [some (.cell n),some (N most),none,none] M=.ok (.rt (r,true),M3):=by
   rw[b43]
   repeat' first|with_reducible (first|exact e1|exact c3|exact qH6|exact s1|exact s2|exact Je hv|exact e2|exact e3|exact e4|exact qS|exact qY|exact zH|exact zo|exact ze|exact qU|exact isT|exact isF|exact ll2|exact ll3|exact zP|exact zk|exact zZ .. | exact QN .. | assumption|apply qG|apply qO|apply qm|apply zJ|apply qo|apply jV|apply ZG|apply t_1|apply f_0|apply jb|apply qN|apply Je)|((with_reducible apply qu);exact cN rfl)|assumption|exact nF rfl|exact nT rfl|rfl
  exact qe t43 ⟨rfl,by decide⟩ (by omega) rfl rfl z (qA ((k1.trans k2).trans k3).len)
theorem drawn(hk:4<=k){M:Mem}{n:Nat}(gd:qAi M n){s:Nat}{A K:List Nat}(h:Pn s A K):∃g M',qI [] (.name 0) (pec (glT gs) (Pk (glT gs) Tb.fns Cs k) .nil) (pe (glT gs) (Pk (glT gs) Tb.fns Cs k) (.call 43 (.cons (.var 1) (.cons (.idx (.lst (.cons (nE 6) (.cons (nE 4) .nil))) (.blt .int (.cons (.cmp .gt (.idx (.var 2) (nE 0)) (nE 3)) .nil))) .nil)))) ((qD A).map N) [] true [none,some (.cell n),some (.tup [N s,NL A,NL K])] M=.ok ((.lst (RL (qD A).length g),true),M')/\Kept n M M'/\Sh s (qD A).length g:=by
 have sl:=ZI (A:=A) (by rw[h.len];exact p5 h.s5);obtain⟨most,hm,hx⟩:∃most,(most=4\/most=6)/\qCd most=cap s/\∀{M:Mem},zr M (.lst [N 6,N 4]) (N (if decide (3<s)=true then 1 else 0))=some (N most,true):=by
  by_cases q:3<s
  ·refine⟨4,.inl rfl,?_,λ{M}=>?_⟩
   ·unfold cap;rw[if_neg (by omega)];rfl
   ·rw[uG q];rfl
  ·refine⟨6,.inr rfl,?_,λ{M}=>?_⟩
   ·unfold cap;rw[if_pos (by omega)];rfl
   ·rw[uF q];rfl
 obtain⟨zs,M1,e1,k1,l1,r1⟩:=M8 (gl:=glT gs) (P:=Pk (glT gs) Tb.fns Cs k) (e:=pe (glT gs) (Pk (glT gs) Tb.fns Cs k) (.call 43 (.cons (.var 1) (.cons (.idx (.lst (.cons (nE 6) (.cons (nE 4) .nil))) (.blt .int (.cons (.cmp .gt (.idx (.var 2) (nE 0)) (nE 3)) .nil))) .nil)))) (σ:=[some (.cell n),some (.tup [N s,NL A,NL K])]) (J:=Kept n M) (Pr:=λq=>U q/\q.den<=cap s)
  ((qD A).map N) [] true none M (by simp[lim];omega) (Kept.refl gd) (λx hx' M' hI=>by
   obtain⟨q,M2,e,kk,pp⟩:=qGD (k:=k) (by omega) hI.good hm;rw[hx.1]at pp;refine⟨q,M2,?_,hI.trans kk,pp⟩;obtain⟨t,_,rfl⟩:=vG.mp hx';have ib:zG M' .int [.v (.bl (decide (3<s)))]=some (N (if decide (3<s)=true then 1 else 0),true):=by cases decide (3<s)<;>rfl
   have ix:=hx.2 (M:=M');have gt:qd M' .gt (N s) (N 3)=some (decide (3<s)):=C3 ..;have lk:([N s,NL A,NL K]:List T)[0]?=some (N s):=rfl;generalize (if decide (3<s)=true then 1 else 0)=v at *
   repeat' first|with_reducible (first|exact ib|exact gt|exact ix|exact lk|exact e|exact qY|exact zH|exact ze|exact qU|exact ll2|exact C3 .. | assumption|apply qG|apply qO|apply qm|apply qo|apply qx|apply jV|apply K9)|assumption|rfl)
 have l1:zs.length=(qD A).length:=by simpa using l1
 rw[List.nil_append,qGS zs,l1]at e1;have q1:∀t,t<(qD A).length->U (zs.getD t 0)/\(zs.getD t 0).den<=cap s:=λt ht=>by
  have:t<zs.length:=by omega
  rw[wa,wE this];exact r1 _ (List.getElem_mem this)
 exact⟨λt=>zs.getD t 0,M1,e1,k1,λt ht=>(q1 t ht).1,λt ht=>(q1 t ht).2⟩
theorem qB0(hk:19<=k)(ns:List Int){i:Nat}(hi:i<=62){M:Mem}(hM:FlatM M){o2 o3 o4:Option T}:∃p2 p3 p4 M',pxs (glT gs) (Pk (glT gs) Tb.fns Cs k) [2] qCw [some (.fz (ns.map λn=>.v (.int n))),some (N i),o2,o3,o4] M=.ok (.nx [some (.fz (ns.map λn=>.v (.int n))),some (N i),p2,p3,p4],M')/\FlatM M':=by
 obtain⟨g0,r0,e1,hb0⟩:=bag (k:=k) (by omega) ns (kk:=i) (by omega) M;have gd:qAi (M++[stT g0 r0]) M.length:=⟨g0,r0,by simp,hb0⟩
 have fl0:FlatM (M++[stT g0 r0]):=hM.app λc hc=>by rw[wo.mp hc];exact V5 g0 r0
 have th0:thaw M.length (.lst (stT g0 r0))=(.cell M.length,[stT g0 r0]):=rfl;obtain⟨s,A,K,f,M1,e2,k1,h⟩:=qGe (k:=k) (by omega) gd;have e45:=qBH (k:=k) (by omega) (M:=M1) (s:=s) (tk:=NL K) (A:=A) (ta:=NL A) (.inl rfl) (by rw[h.len];exact p5 h.s5);have sN:Zi M1 (NL (qD A))=some ((qD A).map N,[]):=rfl;obtain⟨g,M2,e3,k2,hg⟩:=drawn (k:=k) (by omega) k1.good h;obtain⟨m,M3,e4,hm,k3⟩:=out (k:=k) (by omega) k2.good (m:=32) (by decide);have fl3:FlatM M3:=Y0 fl0 ((k1.trans k2).trans k3);have e5:=qDu (k:=k) (by omega) h hg (m:=m) fl3;refine⟨some (.cell M.length),some (.tup [N s,NL A,NL K]),some (.lst (RL (qD A).length g)),M3,?_,fl3⟩;clear k1 k2 k3 hm hg h fl0 gd hb0
 change pxs _ _ _ (.cons _ _) _ _=_
 repeat' first|with_reducible (first|exact e1|exact th0|exact e2|exact e45|exact sN|exact e3|exact e4|exact e5|exact qS|exact qY|exact zH|exact zo|exact E9|exact ze|exact qU|exact QJ|exact zP|exact zk|exact Jo|assumption|apply qG|apply qO|apply zB|apply QG|apply zm|apply f_0|apply jb)|((with_reducible apply qu);exact cN rfl)|((with_reducible apply jX);exact rfl)|assumption|exact nF rfl|rfl
theorem qGu(hk:19<=k)(ns:List Int):∀(m i:Nat) (M:Mem) (o1 o2 o3 o4:Option T),i+m<=63->FlatM M->∃σ' M',zF [] (.name 1) (pxs (glT gs) (Pk (glT gs) Tb.fns Cs k) [2] qCw) ((List.range' i m).map N) [some (.fz (ns.map λn=>.v (.int n))),o1,o2,o3,o4] M=.ok (.nx σ',M')
 | 0,i,M,o1,o2,o3,o4,h,_=>⟨_,M,rfl⟩
 |m+1,i,M,o1,o2,o3,o4,h,hF=>by
  obtain⟨p2,p3,p4,M1,e,F1⟩:=qB0 hk ns (i:=i) (by omega) hF (o2:=o2) (o3:=o3) (o4:=o4);obtain⟨σ',M',e'⟩:=qGu hk ns m (i+1) M1 (some (N i)) p2 p3 p4 (by omega) F1;refine⟨σ',M',?_⟩;rw[vQ,List.map_cons,zA,st1,e,tD];exact e'
end
theorem main:∀ns:List Int,ns.length<=63->∃h',Fk Tb.fns 30 51 [.ref gs.length] (B4 gs ns)=.ok (.bl true,h'):=by
 intro ns hn;obtain⟨σ',M',e⟩:=qGu (k:=29) (by omega) ns (max 1 (min ns.length 3)) 0 [] none none none none (by omega) (λc hc=>by cases hc);rw[<-wz]at e;have key:∃b M2,Pk (glT gs) Tb.fns Cs 30 51 [.fz (ns.map λn=>.v (.int n))] []=.ok ((.v (.bl true),b),M2):=by
  rw[zK t51 ⟨rfl,by decide⟩ (by omega),show Cs.getD 51 []=[2] from rfl];clear hn;have ex:pxs (glT gs) (Pk (glT gs) Tb.fns Cs (30-1)) [2] b51 ([T.fz (ns.map λn=>.v (.int n))].map some++List.replicate (5-1) none) []=.ok (.rt (bT true),M'):=by
   rw[b51];simp(disch:=omega) [zl,e]
  rw[ex];exact U3 _ _ _
 obtain⟨b,M2,e2⟩:=key;exact qDi rfl e2
end _M
namespace PySem.W.Fast
theorem tw12260251608310802716:True:=trivial
theorem tw9657995103603909395:True:=trivial
theorem tw395650366858933263:True:=trivial
theorem tw10446591699721684192:True:=trivial
theorem tw10729410058483061981:True:=trivial
theorem tw16772570356588018370:True:=trivial
theorem tw3056891501329026159:True:=trivial
theorem tw13340058529079116548:True:=trivial
theorem tw5937968553783526344:True:=trivial
theorem tw13169547280366320474:True:=trivial
theorem tw13658359181616687334:True:=trivial
theorem tw7733705136946516416:True:=trivial
theorem tw11525313146126125822:True:=trivial
theorem tw5039617414015774201:True:=trivial
theorem tw310067270550134826:True:=trivial
theorem tw2200980645114701228:True:=trivial
theorem tw13992727380039082040:True:=trivial
theorem tw8833107825384840766:True:=trivial
theorem tw9311097605117339636:True:=trivial
theorem tw3921367739715243944:True:=trivial
theorem tw15061069655099963506:True:=trivial
theorem tw3885885461083767638:True:=trivial
theorem tw6963586874587481325:True:=trivial
theorem tw15312975853382917927:True:=trivial
theorem tw8688226359218194270:True:=trivial
theorem tw8339228767488314425:True:=trivial
theorem tw11597159546277297473:True:=trivial
theorem tw2443358075108467164:True:=trivial
theorem tw16726109203252931670:True:=trivial
theorem tw12167990621142612103:True:=trivial
theorem tw17010678987952987911:True:=trivial
theorem tw14965807819149029080:True:=trivial
theorem tw17067813155140853083:True:=trivial
theorem tw17530095989550823459:True:=trivial
theorem tw1079557349964227047:True:=trivial
theorem tw16884797519329263017:True:=trivial
theorem tw9940197014862624211:True:=trivial
theorem tw5353821716936588975:True:=trivial
theorem tw9685152199357602374:True:=trivial
theorem tw14116928842661844005:True:=trivial
theorem tw7944254349948097105:True:=trivial
theorem tw11523484972390513648:True:=trivial
theorem tw2471646845181434123:True:=trivial
theorem tw11518425730635720631:True:=trivial
theorem tw18421613596961453279:True:=trivial
theorem tw10226249739537212154:True:=trivial
theorem tw8552798995772833549:True:=trivial
theorem tw421563226103245103:True:=trivial
theorem tw14097420671464825691:True:=trivial
theorem tw433279449611196358:True:=trivial
theorem tw1442088053165788239:True:=trivial
theorem tw9258597195758231277:True:=trivial
theorem tw8409145626903923223:True:=trivial
theorem tw10737669634812450952:True:=trivial
theorem tw12546873870869779016:True:=trivial
theorem tw12655208214365492862:True:=trivial
theorem tw16520813476415896280:True:=trivial
theorem tw3007713948440542156:True:=trivial
theorem tw10468280301617204195:True:=trivial
theorem tw8335384688302992000:True:=trivial
theorem tw6344561258201061976:True:=trivial
theorem tw13564539895079295012:True:=trivial
theorem tw15244699481975436534:True:=trivial
theorem tw18176828779119803626:True:=trivial
theorem tw10272371486661934262:True:=trivial
theorem tw9743067125053426851:True:=trivial
theorem tw18082193924337113836:True:=trivial
theorem tw8935252983095241959:True:=trivial
theorem tw8022844391281339567:True:=trivial
theorem tw711869347866508833:True:=trivial
theorem tw7628968398509233496:True:=trivial
theorem tw4869102973670632089:True:=trivial
theorem tw1305923491191204482:True:=trivial
theorem tw16083248865682392993:True:=trivial
theorem tw9631173283400473618:True:=trivial
theorem tw14871062960954328116:True:=trivial
theorem tw13911621736180531358:True:=trivial
theorem tw1538216514168658065:True:=trivial
theorem tw304961401638201207:True:=trivial
theorem tw1322802929145081129:True:=trivial
theorem tw3917412570666603208:True:=trivial
theorem tw6735786501124709347:True:=trivial
theorem tw13765520811407669991:True:=trivial
theorem tw4609517326903325693:True:=trivial
theorem tw13996758146193650174:True:=trivial
theorem tw7782512435952658959:True:=trivial
theorem tw14866056534870680949:True:=trivial
theorem tw2507250646545363640:True:=trivial
theorem tw11248445873272711243:True:=trivial
theorem tw595510204974476986:True:=trivial
theorem tw13082101248304680579:True:=trivial
theorem tw5197403484032271130:True:=trivial
theorem tw12888469360448073354:True:=trivial
theorem tw12994841523303513272:True:=trivial
theorem tw6343626472569987401:True:=trivial
theorem tw15155420395978086208:True:=trivial
theorem tw1420019637984311641:True:=trivial
theorem tw5259606837086384390:True:=trivial
theorem tw18434308878494467750:True:=trivial
theorem tw228093884842729385:True:=trivial
theorem tw10000458564199311762:True:=trivial
theorem tw18293476286667748440:True:=trivial
theorem tw15115199873187207731:True:=trivial
theorem tw13232496421015392426:True:=trivial
theorem tw2304005456285540900:True:=trivial
theorem tw5816593263544055585:True:=trivial
theorem tw13586119234006579565:True:=trivial
theorem tw10061501362312893796:True:=trivial
theorem tw14437504131453245744:True:=trivial
theorem tw7484270090123495840:True:=trivial
theorem tw11375853490591562681:True:=trivial
theorem tw17350350654154423619:True:=trivial
theorem tw13419852816898833699:True:=trivial
theorem tw5326815523062366582:True:=trivial
theorem tw15139166891701193656:True:=trivial
theorem tw13401526799935595078:True:=trivial
theorem tw13460658744469929145:True:=trivial
theorem tw8115782934200194575:True:=trivial
theorem tw10825194925877078394:True:=trivial
theorem tw7228366043922485:True:=trivial
theorem tw11393338168442123663:True:=trivial
theorem tw11264509667253000608:True:=trivial
theorem tw6209232143016513876:True:=trivial
theorem tw3651151611350567086:True:=trivial
theorem tw17301989867443733235:True:=trivial
theorem tw18957509932063028:True:=trivial
theorem tw2004997468713182993:True:=trivial
theorem tw5139251362373104452:True:=trivial
theorem tw1094361371634261161:True:=trivial
theorem tw5470142810280144330:True:=trivial
theorem tw17986963146220003996:True:=trivial
theorem tw16502764190444517694:True:=trivial
theorem tw346483458671562660:True:=trivial
theorem tw5513279934061866765:True:=trivial
theorem tw665927013224581523:True:=trivial
theorem tw14895359123126817900:True:=trivial
theorem tw6605273133669655886:True:=trivial
theorem tw15718020430927726057:True:=trivial
theorem tw6042458795462142318:True:=trivial
theorem tw8286816006736070339:True:=trivial
theorem tw14965211317939130500:True:=trivial
theorem tw12469500700468784931:True:=trivial
theorem tw2464592085952193617:True:=trivial
theorem tw6788441660990504552:True:=trivial
theorem tw533772622039675664:True:=trivial
theorem tw8196733635124279662:True:=trivial
theorem tw15564433673059342649:True:=trivial
theorem tw6518438571470896537:True:=trivial
theorem tw2545158594975709269:True:=trivial
theorem tw4548875406304055622:True:=trivial
theorem tw7565532303834368623:True:=trivial
theorem tw12357737764768287025:True:=trivial
theorem tw6234650028096259029:True:=trivial
theorem tw1424152362254542391:True:=trivial
theorem tw11697434626446551896:True:=trivial
theorem tw9390645310648593048:True:=trivial
theorem tw2142858581673893094:True:=trivial
theorem tw12456568083790980253:True:=trivial
theorem tw1572206444897689681:True:=trivial
theorem tw900354699295881436:True:=trivial
theorem tw10474056635782142180:True:=trivial
theorem tw5206822748723819608:True:=trivial
theorem tw13779690603349924477:True:=trivial
theorem tw18437420862897584201:True:=trivial
theorem tw6865101932782102558:True:=trivial
theorem tw11997624430413027604:True:=trivial
theorem tw14490710427829032721:True:=trivial
theorem tw15850145914430362880:True:=trivial
theorem tw5888447970876820091:True:=trivial
theorem tw12379021795921712994:True:=trivial
theorem tw11231201789676252900:True:=trivial
theorem tw13847614392730651434:True:=trivial
theorem tw13414182220338697561:True:=trivial
theorem tw209664157967640740:True:=trivial
theorem tw9774339489653613622:True:=trivial
theorem tw4690509991298229899:True:=trivial
theorem tw7974835183330596995:True:=trivial
theorem tw6477534688266747433:True:=trivial
theorem tw10404444203584829561:True:=trivial
theorem tw13350593774428894300:True:=trivial
theorem tw12773586115520018215:True:=trivial
theorem tw12387888823157748493:True:=trivial
theorem tw17349355619366255534:True:=trivial
theorem tw4974331007965503376:True:=trivial
theorem tw15183668186013987344:True:=trivial
theorem tw6254040989988463780:True:=trivial
theorem tw16019703450892424951:True:=trivial
theorem tw5434081632057145499:True:=trivial
theorem tw8988526011259822757:True:=trivial
theorem tw12461717014760745119:True:=trivial
theorem tw3508769074412593482:True:=trivial
theorem tw1501410518745135037:True:=trivial
theorem tw7828834004268241276:True:=trivial
theorem tw18285066939815220151:True:=trivial
theorem tw4442255471201017787:True:=trivial
theorem tw11559480248495468754:True:=trivial
theorem tw18376147248735296651:True:=trivial
theorem tw12886712937882015965:True:=trivial
theorem tw7771422744498991738:True:=trivial
theorem tw16677207675344782458:True:=trivial
theorem tw13091845280610571543:True:=trivial
theorem tw7128664345823086286:True:=trivial
theorem tw14561077121936915914:True:=trivial
theorem tw11211232628398951294:True:=trivial
theorem tw11223731882581523502:True:=trivial
theorem tw12777446357161429233:True:=trivial
theorem tw7508058516113339241:True:=trivial
theorem tw11401730060920622197:True:=trivial
theorem tw10882434185010347991:True:=trivial
theorem tw3592393976305217529:True:=trivial
theorem tw18261308781986734759:True:=trivial
theorem tw12096924246570785753:True:=trivial
theorem tw5435898175875170734:True:=trivial
theorem tw12725191580666294522:True:=trivial
theorem tw5159599893663911946:True:=trivial
theorem tw4567753792974417641:True:=trivial
theorem tw17782275112076707731:True:=trivial
theorem tw6328762028526802729:True:=trivial
theorem tw9522285953302172392:True:=trivial
theorem tw18314212356355772878:True:=trivial
theorem tw18155159332233703565:True:=trivial
theorem tw5372742172567535201:True:=trivial
theorem tw6794463914440114411:True:=trivial
theorem tw9480317293181620873:True:=trivial
theorem tw11079016789941951075:True:=trivial
theorem tw9619218280284236879:True:=trivial
theorem tw10397475284050345833:True:=trivial
theorem tw12758209919956760012:True:=trivial
theorem tw1166434313863349607:True:=trivial
theorem tw14142851134246127919:True:=trivial
theorem tw6186981366203884062:True:=trivial
theorem tw10599277060015355463:True:=trivial
theorem tw15146646368460028097:True:=trivial
theorem tw17523042019568829068:True:=trivial
theorem tw13122937617654667462:True:=trivial
theorem tw6857812018184593340:True:=trivial
theorem tw17585199518901875336:True:=trivial
theorem tw14561064925442242447:True:=trivial
theorem tw9281542107879343685:True:=trivial
theorem tw11155268630494940201:True:=trivial
theorem tw15430071633530884713:True:=trivial
theorem tw6808860430989840473:True:=trivial
theorem tw2667251145503946155:True:=trivial
theorem tw17352123457375367911:True:=trivial
theorem tw17549016950898291843:True:=trivial
theorem tw11986617667409052950:True:=trivial
theorem tw7317243732268227249:True:=trivial
theorem tw1633348728636786464:True:=trivial
theorem tw14395550848691727462:True:=trivial
theorem tw1270144286987052655:True:=trivial
theorem tw15524964690656733234:True:=trivial
theorem tw4287310278118444687:True:=trivial
theorem tw2506141731736489535:True:=trivial
theorem tw15104264522080301105:True:=trivial
theorem tw18086498444225821762:True:=trivial
theorem tw5626821507868254565:True:=trivial
theorem tw17987024811735726798:True:=trivial
theorem tw98394457047371085:True:=trivial
theorem tw9686562577441992281:True:=trivial
theorem tw8969073829897706781:True:=trivial
theorem tw2349420108130152144:True:=trivial
theorem tw3179704685937987308:True:=trivial
theorem tw17071934793826236022:True:=trivial
theorem tw11122949819968571402:True:=trivial
theorem tw12175673979999119965:True:=trivial
theorem tw2795214850314998447:True:=trivial
theorem tw12860619019432829919:True:=trivial
theorem tw2888060104755339733:True:=trivial
theorem tw1742021330956724871:True:=trivial
theorem tw6311777997241165823:True:=trivial
theorem tw5597188432458131894:True:=trivial
theorem tw1595367311945751912:True:=trivial
theorem tw1599626679115561749:True:=trivial
theorem tw12920936191341880410:True:=trivial
theorem tw13769055472344282958:True:=trivial
theorem tw5219577173391170758:True:=trivial
theorem tw3037606132339761966:True:=trivial
theorem tw183123185041373263:True:=trivial
theorem tw8370631158644705471:True:=trivial
theorem tw14127771341793377990:True:=trivial
theorem tw7155734141617611649:True:=trivial
theorem tw13874985051653287560:True:=trivial
theorem tw14078536139719845670:True:=trivial
theorem tw9002261974368654697:True:=trivial
theorem tw328006008153617938:True:=trivial
theorem tw6071274008174344926:True:=trivial
theorem tw8406252600286506658:True:=trivial
theorem tw6081799309416522742:True:=trivial
theorem tw6431308716371612770:True:=trivial
theorem tw8136601556908570694:True:=trivial
theorem tw14344272922881099814:True:=trivial
theorem tw406703898414410669:True:=trivial
theorem tw6664727917868947433:True:=trivial
theorem tw14768136086886100393:True:=trivial
theorem tw9787282559493033620:True:=trivial
theorem tw10384594261237412810:True:=trivial
theorem tw16518063513188769019:True:=trivial
theorem tw2559919441707265297:True:=trivial
theorem tw9361047431295099524:True:=trivial
theorem tw5884632509220331286:True:=trivial
theorem tw11320919891180776703:True:=trivial
theorem tw17080512878601023711:True:=trivial
theorem tw11523823768979333885:True:=trivial
theorem tw13461642168095014422:True:=trivial
theorem tw6427156307969524951:True:=trivial
theorem tw12996489841294048035:True:=trivial
theorem tw5499007933906843171:True:=trivial
theorem tw3901957475370382311:True:=trivial
theorem tw1308966210608832712:True:=trivial
theorem tw10523528437994097353:True:=trivial
theorem tw10703175417200734902:True:=trivial
theorem tw10765492723256026059:True:=trivial
theorem tw15328373097523139290:True:=trivial
theorem tw14502102406932489023:True:=trivial
theorem tw12535048225065302587:True:=trivial
theorem tw6294986902271589820:True:=trivial
theorem tw2910394084194790242:True:=trivial
theorem tw5844327097978722885:True:=trivial
theorem tw9538963667789725534:True:=trivial
theorem tw13424760951157907663:True:=trivial
theorem tw18401989304666699716:True:=trivial
theorem tw1092611223016479907:True:=trivial
theorem tw16144686039528336357:True:=trivial
theorem tw15823879404126431372:True:=trivial
theorem tw11971523061321607583:True:=trivial
theorem tw17118361021938677319:True:=trivial
theorem tw15680184204443975098:True:=trivial
theorem tw10677830256133036687:True:=trivial
theorem tw4505530403955811735:True:=trivial
theorem tw15316761284954840130:True:=trivial
theorem tw5953929154261935252:True:=trivial
theorem tw10028813906069912876:True:=trivial
theorem tw3245737251160899655:True:=trivial
theorem tw6558461288740279808:True:=trivial
theorem tw1105020098746391363:True:=trivial
theorem tw17509437705179584573:True:=trivial
theorem tw14742303111339568204:True:=trivial
theorem tw3163868584079149316:True:=trivial
theorem tw13673644375510580424:True:=trivial
theorem tw14769243742032571247:True:=trivial
theorem tw11374645242326274813:True:=trivial
theorem tw8578387122744650748:True:=trivial
theorem tw11502281893387908806:True:=trivial
theorem tw7011997936841312827:True:=trivial
theorem tw17411752588121877007:True:=trivial
theorem tw12793250391297600507:True:=trivial
theorem tw9606817678657941005:True:=trivial
theorem tw15968613349197489517:True:=trivial
theorem tw4649781798786509314:True:=trivial
theorem tw18382723577171529400:True:=trivial
theorem tw11402046900117467939:True:=trivial
theorem tw4660907194939331179:True:=trivial
theorem tw14008611729506960484:True:=trivial
theorem tw16120345880501624634:True:=trivial
theorem tw17280134895970560088:True:=trivial
theorem tw1189303622973200046:True:=trivial
theorem tw10652699552666776413:True:=trivial
theorem tw11832224373707363475:True:=trivial
theorem tw14399589194345165210:True:=trivial
theorem tw3797902855538205895:True:=trivial
theorem tw17795180198473946380:True:=trivial
theorem tw18270468867937174600:True:=trivial
theorem tw11174419264133508250:True:=trivial
theorem tw3132681018649736932:True:=trivial
theorem tw10897652257959798935:True:=trivial
theorem tw9180735959840679802:True:=trivial
end PySem.W.Fast
namespace _M
open PySem PySem.Spec PyProof.Rows _L _P
theorem dk1{d:D3}(h:d.ps.length=1)(sc:zS d.N d.ps (defScope d.st))(b:∀(kV doc pm:Value) (an:Option Addr) (cdv ct:Value),∀u0:Value,bindArgs (PySem.W.fnOf d.x d.x (zn d.st) (defBody d.st) (defScope d.st) .none kV doc pm an cdv ct) ⟨[u0],[]⟩=pure (d.ps.zip [u0])):qC9 d:=⟨sc,λ_ _ _ _ _ _ us hl=>by
 rw[h]at hl;obtain⟨_,rfl⟩:=_P.len1 hl;exact b _ _ _ _ _ _ _⟩
theorem dk2{d:D3}(h:d.ps.length=2)(sc:zS d.N d.ps (defScope d.st))(b:∀(kV doc pm:Value) (an:Option Addr) (cdv ct:Value),∀u0 u1:Value,bindArgs (PySem.W.fnOf d.x d.x (zn d.st) (defBody d.st) (defScope d.st) .none kV doc pm an cdv ct) ⟨[u0,u1],[]⟩=pure (d.ps.zip [u0,u1])):qC9 d:=⟨sc,λ_ _ _ _ _ _ us hl=>by
 rw[h]at hl;obtain⟨_,_,rfl⟩:=_P.len2 hl;exact b _ _ _ _ _ _ _ _⟩
theorem dk3{d:D3}(h:d.ps.length=3)(sc:zS d.N d.ps (defScope d.st))(b:∀(kV doc pm:Value) (an:Option Addr) (cdv ct:Value),∀u0 u1 u2:Value,bindArgs (PySem.W.fnOf d.x d.x (zn d.st) (defBody d.st) (defScope d.st) .none kV doc pm an cdv ct) ⟨[u0,u1,u2],[]⟩=pure (d.ps.zip [u0,u1,u2])):qC9 d:=⟨sc,λ_ _ _ _ _ _ us hl=>by
 rw[h]at hl;obtain⟨_,_,_,rfl⟩:=_P.len3 hl;exact b _ _ _ _ _ _ _ _ _⟩
theorem dks:∀d∈Tb.ds,qC9 d:=by
 unfold Tb;dsimp only
 repeat' (refine we.2 ⟨?_,?_⟩;first|exact dk1 rfl ⟨rfl,rfl,rfl,by decide +kernel,rfl,by decide +kernel,by decide +kernel⟩ λ_ _ _ _ _ _ _=>rfl|exact dk2 rfl ⟨rfl,rfl,rfl,by decide +kernel,rfl,by decide +kernel,by decide +kernel⟩ λ_ _ _ _ _ _ _ _=>rfl|exact dk3 rfl ⟨rfl,rfl,rfl,by decide +kernel,rfl,by decide +kernel,by decide +kernel⟩ λ_ _ _ _ _ _ _ _ _=>rfl)
 exact λ_ h=>nomatch h
theorem all_mk{l:PySem.W.OpenLaw}{w:World}{K:PySem.W.Frag}{h:Heap}{mg:Str->Option Value}{fa:Addr}(X:K.In h)(G:h.Ns mainGlobals mg)(hfa:mg "law"=some (.ref fa))
  (hds:∀d∈Tb.ds,qEP K d)
  {ga0:Addr}{gn0:Nat}{gsl0:Array (Option Value)}{u0_0 u0_1 u0_2 u0_3 u0_4 u0_5:Tok}(g_LENGTHS:PySem.W.nsIn K mainGlobals "LENGTHS"=some (some (.ref ga0))) (m0:K.lookup ga0=some ⟨.type "tuple",none,.seq #[.int 1 u0_0,.int 2 u0_1,.int 4 u0_2,.int 8 u0_3,.int 16 u0_4,.int 32 u0_5] gn0,gsl0⟩)
  {tg_GREATEST_SIZE:Tok}(g_GREATEST_SIZE:PySem.W.nsIn K mainGlobals "GREATEST_SIZE"=some (some (.int 5 tg_GREATEST_SIZE)))
  {tg_GREATEST_IN_SHARE:Tok}(g_GREATEST_IN_SHARE:PySem.W.nsIn K mainGlobals "GREATEST_IN_SHARE"=some (some (.int 999999999999 tg_GREATEST_IN_SHARE)))
  {tg_MOST_SENDINGS:Tok}(g_MOST_SENDINGS:PySem.W.nsIn K mainGlobals "MOST_SENDINGS"=some (some (.int 6 tg_MOST_SENDINGS)))
  (hcs:S8 K (["HealError","NoNumber","NoRoad","NoPlan"]:List Str)=true)
  (z_len:PySem.W.nsIn K mainGlobals "len"=some none)
  (z_sum:PySem.W.nsIn K mainGlobals "sum"=some none)
  (z_all:PySem.W.nsIn K mainGlobals "all"=some none)
  (z_max:PySem.W.nsIn K mainGlobals "max"=some none)
  (z_min:PySem.W.nsIn K mainGlobals "min"=some none)
  (z_abs:PySem.W.nsIn K mainGlobals "abs"=some none)
  (z_list:PySem.W.nsIn K mainGlobals "list"=some none)
  (z_int:PySem.W.nsIn K mainGlobals "int"=some none)
  (z_tuple:PySem.W.nsIn K mainGlobals "tuple"=some none)
  (z_range:PySem.W.nsIn K mainGlobals "range"=some none)
  (z_zip:PySem.W.nsIn K mainGlobals "zip"=some none)
  (z_isinstance:PySem.W.nsIn K mainGlobals "isinstance"=some none)
  (z_bool:PySem.W.nsIn K mainGlobals "bool"=some none)
  (z_sorted:PySem.W.nsIn K mainGlobals "sorted"=some none)
  (z_reversed:PySem.W.nsIn K mainGlobals "reversed"=some none)
  (z_enumerate:PySem.W.nsIn K mainGlobals "enumerate"=some none)
  (z_ValueError:PySem.W.nsIn K mainGlobals "ValueError"=some none)
  (main:∀ns:List Int,ns.length<=63->∃h',Fk Tb.fns 30 51 [.ref gs.length] (B4 gs ns)=.ok (.bl true,h')):
  ∃fd:FuncData,(∀(s:Shared) (v:Value),BindsTo s fd ⟨[v],[]⟩ [("_law_script",v)])/\∀base:Heap,K.In base->base.Ns mainGlobals mg->FnOk l.prog w K mg base CX0 60 fa fd ["_law_script"] (qAZ K):=by
 obtain⟨fas,fds,hT⟩:=qBQ X G Tb.ds hds dks;have O:S7 K mg [ga0] Tb fas fds:=by
  refine⟨hT,λx e hx=>?_,λx hx=>?_,ClsOk.rec_ X G hcs (by decide +kernel) rfl (by decide +kernel) (by decide),λa ha=>(wL.mp ha).elim (λz=>by subst z;exact⟨_,m0,rfl,rfl⟩) λha=>nomatch ha⟩
  ·have hx2:List.lookup x ([("LENGTHS",E.glob 0),("GREATEST_SIZE",E.cst (.int 5)),("GREATEST_IN_SHARE",E.cst (.int 999999999999)),("MOST_SENDINGS",E.cst (.int 6))]:List (Str×E))=some e:=hx;simp only[List.lookup_cons,List.lookup_nil]at hx2;split at hx2
   ·rename_i hq;have hq2:x="LENGTHS":=by simpa using hq
    subst hq2;cases hx2;exact .inr ⟨_,_,rfl,PySem.W.mg_of X G g_LENGTHS,rfl⟩
   split at hx2
   ·rename_i hq;have hq2:x="GREATEST_SIZE":=by simpa using hq
    subst hq2;cases hx2;exact .inl ⟨_,_,rfl,PySem.W.mg_of X G g_GREATEST_SIZE,⟨_,rfl⟩,λ_=>rfl⟩
   split at hx2
   ·rename_i hq;have hq2:x="GREATEST_IN_SHARE":=by simpa using hq
    subst hq2;cases hx2;exact .inl ⟨_,_,rfl,PySem.W.mg_of X G g_GREATEST_IN_SHARE,⟨_,rfl⟩,λ_=>rfl⟩
   split at hx2
   ·rename_i hq;have hq2:x="MOST_SENDINGS":=by simpa using hq
    subst hq2;cases hx2;exact .inl ⟨_,_,rfl,PySem.W.mg_of X G g_MOST_SENDINGS,⟨_,rfl⟩,λ_=>rfl⟩
   cases hx2
  ·have hx2:x∈(["len","sum","all","max","min","abs","list","int","tuple","range","zip","isinstance","bool","sorted","reversed","enumerate","ValueError"]:List Str):=vK.mp hx;simp only[wL,wg,or_false]at hx2;rcases hx2 with rfl|rfl|rfl|rfl|rfl|rfl|rfl|rfl|rfl|rfl|rfl|rfl|rfl|rfl|rfl|rfl|rfl
   ·exact PySem.W.mg_none_of X G z_len
   ·exact PySem.W.mg_none_of X G z_sum
   ·exact PySem.W.mg_none_of X G z_all
   ·exact PySem.W.mg_none_of X G z_max
   ·exact PySem.W.mg_none_of X G z_min
   ·exact PySem.W.mg_none_of X G z_abs
   ·exact PySem.W.mg_none_of X G z_list
   ·exact PySem.W.mg_none_of X G z_int
   ·exact PySem.W.mg_none_of X G z_tuple
   ·exact PySem.W.mg_none_of X G z_range
   ·exact PySem.W.mg_none_of X G z_zip
   ·exact PySem.W.mg_none_of X G z_isinstance
   ·exact PySem.W.mg_none_of X G z_bool
   ·exact PySem.W.mg_none_of X G z_sorted
   ·exact PySem.W.mg_none_of X G z_reversed
   ·exact PySem.W.mg_none_of X G z_enumerate
   ·exact PySem.W.mg_none_of X G z_ValueError
 have hG:L3 K [ga0] gs:=⟨⟨.inr ⟨_,_,_,m0,rfl,rfl,by show 6<=sizeLine;decide,.cons ⟨_,rfl⟩ (.cons ⟨_,rfl⟩ (.cons ⟨_,rfl⟩ (.cons ⟨_,rfl⟩ (.cons ⟨_,rfl⟩ (.cons ⟨_,rfl⟩ (.nil))))))⟩,rfl⟩,True.intro⟩
 obtain⟨a,f,e1,e2,F,_,em,_⟩:=hT 51 _ rfl;have e:=hfa.symm.trans em;cases e;exact⟨f,qGi F (dks _ (wR (i:=51) rfl)) rfl,λbase _ _=>V2 O hG (i:=51) rfl e1 e2 rfl main⟩
theorem walk{l:PySem.W.OpenLaw}{q:Program}{loose:List Str}{XP:(Str->Option Value)->Heap->Prop}{YP:World->Heap->Prop}{d:DefRec}{K:Params->PySem.W.Frag}(hn:l.most=some 63)(hdf:d.params.defaults=[])
  (hY:∀(w:World) (h:Heap),YP w h->(K w.params).In h)
  (F:∀(w:World) (mg:Str->Option Value) (fa:Addr) (h:Heap),(K w.params).In h->h.Ns mainGlobals mg->mg d.name=some (.ref fa) ->
   ∃fd:FuncData,(∀(s:Shared) (u:Value),BindsTo s fd ⟨[u],[]⟩ [("_law_script",u)])/\∀base:Heap,(K w.params).In base->base.Ns mainGlobals mg->FnOk l.prog w (K w.params) mg base CX0 60 fa fd ["_law_script"] (qAZ (K w.params))):
  PySem.W.WalkO q loose XP YP l.row.toRowW d [] (λf vs=>PySem.call f vs):=
 _L.walk_of (n:=63) (k:=60) (x:="_law_script") (CX:=λ_=>CX0) (sp:=λw=>qAZ (K w.params)) hn (by decide) hdf ⟨rfl,by decide,by decide,rfl⟩ hY F (λ_ _ a ns hl hO hS=>⟨a,ns,rfl,hO,hS,hl,λ_=>rfl⟩) λ_ _ _ _ _ z=>z
end _M
open PySem PySem.W PyProof.Rows
set_option maxRecDepth 100000 in
set_option maxHeartbeats 0 in
theorem PySem.Challenge.cw_healhalves_k73_roads_of_plans_holds : PySem.Challenge.rw_healhalves_k73_roads_of_plans.Holds := by
 w_on;o_law;k_head;(case hw=>w_witness2)
 k_fill
 refine _M.walk (l:=PySem.Challenge.rw_healhalves_k73_roads_of_plans) rfl rfl (λw h Y=>PySem.W.kIn_of Y) ?F
 case F=>
  intro w mg fa h KX G hmg
  refine' _M.all_mk KX G hmg ?ds ?g_LENGTHS ?m0 ?g_GREATEST_SIZE ?g_GREATEST_IN_SHARE ?g_MOST_SENDINGS ?hcs ?z_len ?z_sum ?z_all ?z_max ?z_min ?z_abs ?z_list ?z_int ?z_tuple ?z_range ?z_zip ?z_isinstance ?z_bool ?z_sorted ?z_reversed ?z_enumerate ?z_ValueError _M.main
  case ds=>
   unfold _M.Tb;dsimp only
   repeat' (refine we.2 ⟨⟨_,_,_,_,_,_,_,_,_,_,by k_is,by k_is,by k_is,by k_is⟩,?_⟩)
   exact λ_ h=>nomatch h
  case hcs=>kernel_rfl
  all_goals (try k_is)
