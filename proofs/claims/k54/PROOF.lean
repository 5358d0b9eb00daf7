import PyProof.Rows.All
import Wide.All
import OpenK.AllK
import Wide.FinOn
import Lean
import PyProof.EqAt
import PyProof.EqKinds
import PyProof.TupleCall
import PyProof.NeKinds
import PyProof.ZipIter
import PyProof.ReprRoads
import Wide.Words
import PyProof.Rows.MinMaxN
import KE.KIntText
import PyProof.StrWalks
import PyProof.StrLawsJoin
import KE.KSortKey
import KE.KDictOf
import KE.KItemsList
import PyProof.AttrMissHeap
import PyProof.Rows.SetFrom
import PyProof.DictIter
import PyProof.Rows.SortShell
import KE.KDictSum
import KE.KRevIter
import PyProof.EnumMake
import PyProof.EnumFor
import PyProof.WalksEnum
import PyProof.Rows.EnumRows
import PyProof.FactsAll.range_2
import PyProof.AutoRange
import KE.KDictList
import PySem.Challenge.RW_healhalves_k54_how_many_fit
set_option linter.all false
def wA:=@Option.map_eq_some_iff
def wB:=@List.getElem?_eq_some_iff
def wC:=@List.getElem?_append_left
def wD:=@List.getElem?_eq_getElem
def wE:=@Bool.and_eq_true
def wF:=@List.mem_append
def wG:=@Nat.lt_of_lt_of_le
def wI:=@Option.bind_eq_some_iff
def wJ:=@List.mem_cons
def wK:=@List.length_map
def wL:=@List.mem_cons_of_mem
def wM:=@Nat.le_refl
def wN:=@List.mem_append_left
def wO:=@List.size_toArray
def wP:=@List.mem_singleton
def wQ:=@List.mem_append_right
def wR:=@List.not_mem_nil
def wS:=@Nat.le_trans
def wT:=@List.mem_of_getElem?
def wU:=@List.mem_cons_self
def wV:=@List.length_append
def wW:=@List.mem_map
def wX:=@List.getElem?_set_ne
def wY:=@List.getD_eq_getElem?_getD
def wZ:=@List.mem_range
def wa:=@List.getElem?_append_right
def wb:=@List.getElem?_set_self
def wd:=@List.append_nil
def we:=@List.mem_filter
def wf:=@List.nodup_cons
def wg:=@List.getElem?_map
def wj:=@Nat.ne_of_lt
def wk:=@List.map_append
def wl:=@Bool.eq_iff_iff
def wm:=@List.append_assoc
def wn:=@List.nodup_append
def wo:=@Nat.pow_le_pow_right
def wp:=@Nat.lt_irrefl
def wq:=@List.length_eq_zero_iff
def wu:=@List.any_eq_true
def wv:=@List.forall_mem_cons
def wx:=@List.nodup_range
def wy:=@List.length_filter_le
def wz:=@Nat.lt_trans
def vA:=@List.getElem?_take_of_lt
def vB:=@Bool.false_ne_true
def vC:=@List.length_range
def vD:=@Array.length_toList
def vE:=@Nat.testBit_xor
def vF:=@Bool.false_eq_true
def vG:=@List.range'_succ
def vH:=@List.range_eq_range'
def vI:=@List.map_map
def vJ:=@List.lookup_append
def vK:=@List.getElem?_eq_none
def vL:=@Nat.testBit_eq_decide_div_mod_eq
def vM:=@Bool.and_true
def vN:=@List.map_congr_left
def vO:=@Nat.testBit_two_pow
def vP:=@List.filter_cons_of_pos
def vQ:=@Nat.le_of_lt
def vR:=@Nat.ne_of_gt
def vS:=@Nat.testBit_lt_two_pow
def vT:=@Int.fdiv_eq_ediv_of_nonneg
def vU:=@Nat.zero_le
def vV:=@List.getElem_toArray
def vW:=@List.nodup_nil
def vX:=@List.perm_ext_iff_of_nodup
def vY:=@Nat.mod_two_eq_zero_or_one
def vZ:=@List.length_take
def vb:=@List.getElem_mem
def vc:=@Nat.le_add_right
def vd:=@List.drop_eq_getElem_cons
def ve:=@List.getElem?_range
def vf:=@Bool.or_eq_true
def vg:=@Nat.two_pow_pos
def vh:=@Int.natCast_nonneg
def vi:=@Nat.lt_of_le_of_lt
def vj:=@List.filter_cons_of_neg
def vk:=@Int.toNat_natCast
def vm:=@List.drop_eq_nil_of_le
def vn:=@List.mapM_cons
def vo:=@Bool.and_assoc
def vp:=@Nat.lt_succ_self
def vq:=@List.getElem_map
def vt:=@List.drop_eq_nil_iff
def vw:=@Nat.one_mul
def vy:=@List.of_mem_zip
def vz:=@List.forIn_cons
def uA:=@List.length_zip
def uB:=@List.range_succ
def uC:=@Nat.div_add_mod
def uD:=@Nat.mul_comm
def uE:=@Nat.mod_lt
open PySem PySem.Spec in def uF:=@wpAny_bind
open PySem PySem.Spec in def uG:=@wpAny_pure
def uH:=@decide_eq_false
def uI:=@decide_eq_true
def uJ:=@decide_eq_true_eq
def uK:=@of_decide_eq_true
open PySem PySem.Spec in def uL:=@wpAny_truthy_bool
def uM:=@beq_self_eq_true
set_option genInjectivity false
set_option bootstrap.genMatcherCode false
set_option compiler.extract_closed false
set_option genSizeOf false
set_option genSizeOfSpec false
set_option Elab.async false
set_option maxRecDepth 100000
namespace _L
open PySem PySem.Spec PyProof.Rows
noncomputable abbrev Key:=Sum Int Str
noncomputable def Zh:Key->Value->Bool
 | .inl k,v=>Value.isInt k v
 | .inr x,v=>Value.isStrOf x v
noncomputable def qH6(w:World):Key->Int
 | .inl k=>hashInt k
 | .inr x=>hashStr w x
theorem qf:∀{k:Key}{v:Value},Zh k v=true->(∃i t,k=Sum.inl i/\v=Value.int i t)\/(∃x t,k=Sum.inr x/\v=Value.str x t)
 | .inl i,v,h=>by
  obtain⟨t,e⟩:=Value.isInt_shape (k:=i) (v:=v) h;exact .inl ⟨i,t,rfl,e⟩
 | .inr x,v,h=>by
  obtain⟨t,e⟩:=Value.isStrOf_shape (x:=x) (v:=v) h;exact .inr ⟨x,t,rfl,e⟩
theorem j6(i:Int)(t:Tok):Zh (.inl i) (.int i t)=true:=by simp[Zh,Value.isInt]
theorem T9(x:Str)(t:Tok):Zh (.inr x) (.str x t)=true:=by simp[Zh,Value.isStrOf]
theorem qDO(a b:Int):decide ((Sum.inl a:Key)=Sum.inl b)=(a==b):=by
 by_cases e:a=b
 ·subst e;simp
 ·have h:¬ (Sum.inl a:Key)=Sum.inl b:=λq=>e (Sum.inl.inj q);rw[uH h];exact(beq_eq_false_iff_ne.mpr e).symm
theorem qD9(a b:Str):decide ((Sum.inr a:Key)=Sum.inr b)=decide (a=b):=by
 by_cases e:a=b
 ·subst e;simp
 ·have h:¬ (Sum.inr a:Key)=Sum.inr b:=λq=>e (Sum.inr.inj q);rw[uH h,uH e]
theorem qCz(a:Int)(b:Str):decide ((Sum.inl a:Key)=Sum.inr b)=false:=uH (λq=>nomatch q)
theorem qDb(a:Str)(b:Int):decide ((Sum.inr a:Key)=Sum.inl b)=false:=uH (λq=>nomatch q)
noncomputable def qb(prog:Program)(w:World):PySem.KeyKind prog w Key where
 is:=Zh
 hash:=qH6 w
 inj:=λv a b ha hb=>by
  rcases qf ha with⟨i,t,rfl,rfl⟩|⟨x,t,rfl,rfl⟩
  ·rcases qf hb with⟨j,u,rfl,e⟩|⟨y,u,rfl,e⟩
   ·injection e with e1 _;rw[e1]
   ·exact nomatch e
  ·rcases qf hb with⟨j,u,rfl,e⟩|⟨y,u,rfl,e⟩
   ·exact nomatch e
   ·injection e with e1 _;rw[e1]
 byValue:=λk v h=>by
  rcases qf h with⟨i,t,rfl,rfl⟩|⟨x,t,rfl,rfl⟩<;>rfl
 pyHash:=λhv h=>by
  rcases qf hv with⟨i,t,rfl,rfl⟩|⟨x,t,rfl,rfl⟩
  ·exact wpAny_pyHash_int h
  ·exact wpAny_pyHash_str h
 eqBool:=λhu hv h=>by
  rcases qf hu with⟨i,t,rfl,rfl⟩|⟨x,t,rfl,rfl⟩
  ·rcases qf hv with⟨j,u,rfl,rfl⟩|⟨y,u,rfl,rfl⟩
   ·rw[qDO]at h;exact wpAny_eqBool_int h
   ·rw[qCz]at h;exact SeqAt.EqAt.int_str i t y u _ _ _ _ h
  ·rcases qf hv with⟨j,u,rfl,rfl⟩|⟨y,u,rfl,rfl⟩
   ·rw[qDb]at h;exact SeqAt.EqAt.str_int x t j u _ _ _ _ h
   ·rw[qD9]at h;exact wpAny_eqBool_str h
 «strs»:=λk x t v h=>by
  rcases qf h with⟨i,u,rfl,e⟩|⟨y,u,rfl,e⟩
  ·exact nomatch e
  ·injection e with e1 _;subst e1;cases v<;>rfl
theorem B9(prog:Program)(w:World)(i:Int)(t:Tok):(qb prog w).is (.inl i) (.int i t)=true:=j6 i t
theorem B3(prog:Program)(w:World)(x:Str)(t:Tok):(qb prog w).is (.inr x) (.str x t)=true:=T9 x t
inductive V where
 |non|bl (b:Bool)|int (i:Int)|str (x:Str)|byt (b:Array UInt8)|flt (b:UInt64)|ref (a:Addr)|ty (n:String)
 deriving DecidableEq
def RelV:V->Value->Prop
 | .non,u=>u=Value.none
 | .bl b,u=>u=Value.bool b
 | .int i,u=>∃t,u=Value.int i t
 | .str x,u=>∃t,u=Value.str x t
 | .byt b,u=>∃t,u=Value.bytes b t
 | .flt b,u=>∃t,u=Value.float b t
 | .ref a,u=>u=Value.ref a
 | .ty n,u=>u=Value.type n
abbrev Vals:List V->List Value->Prop:=Paired RelV
theorem Vals.length{xs:List V}{us:List Value}(r:Vals xs us):xs.length=us.length:=Paired.length r
theorem Vals.get:∀{xs:List V}{us:List Value}{i:Nat}{x:V},Vals xs us->xs[i]?=some x->∃u,us[i]?=some u/\RelV x u
 |_,_,_,_,.nil,e=>by simp at e
 |_,_,0,_,.cons r _,e=>by simp at e;subst e;exact⟨_,rfl,r⟩
 |_,_,i+1,x,.cons _ t,e=>by
  obtain⟨u,h1,h2⟩:=Vals.get (i:=i) (x:=x) t (by simpa using e);exact⟨u,by simpa using h1,h2⟩
theorem Vals.set{x:V}{u:Value}(r:RelV x u):∀{xs:List V}{us:List Value}(i:Nat),Vals xs us->Vals (xs.set i x) (us.set i u)
 |_,_,_,.nil=>.nil
 |_,_,0,.cons _ t=>.cons r t
 |_,_,i+1,.cons q t=>.cons q (Vals.set r i t)
theorem Vals.append:∀{xs ys:List V}{us ws:List Value},Vals xs us->Vals ys ws->Vals (xs++ys) (us++ws)
 |_,_,_,_,.nil,s=>s
 |_,_,_,_,.cons r t,s=>.cons r (Vals.append t s)
theorem Vals.take:∀{xs:List V}{us:List Value}(n:Nat),Vals xs us->Vals (xs.take n) (us.take n)
 |_,_,0,_=>.nil
 |_,_,_+1,.nil=>.nil
 |_,_,n+1,.cons r t=>.cons r (Vals.take n t)
theorem Vals.drop:∀{xs:List V}{us:List Value}(n:Nat),Vals xs us->Vals (xs.drop n) (us.drop n)
 |_,_,0,r=>r
 |_,_,_+1,.nil=>.nil
 |_,_,n+1,.cons _ t=>Vals.drop n t
def RelO:Option V->Option Value->Prop
 |some v,some u=>RelV v u
 |none,none=>True
 |_,_=>False
def KV{κ:Type}:List (κ×V)->List (κ×Value)->Prop:=Paired λ(p:κ×V) (q:κ×Value)=>p.1=q.1/\RelV p.2 q.2
noncomputable def kV:Key->V
 | .inl i=>.int i
 | .inr x=>.str x
inductive HO where
 |lst (xs:List V)
 |tup (xs:List V)
 |dK (kvs:List (Key×V))|dT (kvs:List (List Key×V))
 |set (S:Int->Bool) (n:Nat)
 |ins (C dx:Addr) (fs:List (Str×V))
 |own (x:Addr)
 |xd (fs:List (Str×V))
 |met (f x:Addr)
 |rng (lo hi:Int)
 |frz (o:Obj) (u:HO)
 |tbl (ps:Array Value)
 |ext (φ:Heap->Prop)
noncomputable abbrev Hp:=Addr->Option HO
noncomputable def upd(H:Hp)(a:Addr)(o:HO):Hp:=λb=>if b=a then some o else H b
theorem qC{H:Hp}{a:Addr}{o:HO}:upd H a o a=some o:=by unfold upd;rw[if_pos rfl]
theorem qE{H:Hp}{a b:Addr}{o:HO}(h:b≠a):upd H a o b=H b:=by unfold upd;rw[if_neg h]
theorem qFk{H:Hp}{a b:Addr}{o u:HO}(h:H a=some o)(h':H b=some u)(d:o≠u):a≠b:=by
 intro e;subst e;rw[h]at h';exact d (Option.some.inj h')
theorem ne_of_none{H:Hp}{a b:Addr}{o:HO}(h:H a=some o)(h':H b=none):a≠b:=by
 intro e;subst e;rw[h]at h';cases h'
section
variable (P:Program)(w:World)
def ObjOk(H:Hp)(h:Heap)(a:Addr):HO->Prop
 | .lst xs=>xs.length<=sizeLine/\∃(its:List Value) (n:Nat),Vals xs its/\h.get? a=some { cls:=.type "list",data:=.seq its.toArray n }
 | .tup xs=>xs.length<=sizeLine/\∃its:List Value,Vals xs its/\IsTup h a its.toArray
 | .dK kvs=>kvs.length<=sizeLine/\(a==sysModules)=false/\∃vs,KV kvs vs/\h.DictOf (qb P w) a vs
 | .dT kvs=>kvs.length<=sizeLine/\(a==sysModules)=false/\∃xs:List (List Key×Addr×Value),
   Paired (λ(p:List Key×V) (q:List Key×Addr×Value)=>p.1=q.1/\H q.2.1=some (.tup (p.1.map kV))/\RelV p.2 q.2.2) kvs xs/\
   ∃o es ep,h.get? a=some o/\o.ExactDict/\o.data=.dict es ep/\es.toList=xs.map (entryOfKey (tupleKind (qb P w)))/\(xs.map (·.1)).Nodup
 | .set S n=>h.SetOf (intKind P w) a S n
 | .ins C dx fs=>H dx=some (.own a)/\fs.length<=1000/\dx≠a/\h.get? a=some (PySem.W.instObj C dx)/\
   ∃mA,h.Ns1 dx mA/\(∀f,RelO (fs.lookup f) (mA f))/\PySem.Within mA (fs.map (·.1))
 | .own _=>∃o,h.get? a=some o
 | .xd fs=>∃mA,h.Ns1 a mA/\∀f,RelO (fs.lookup f) (mA f)
 | .rng lo hi=>∃t u v,h.get? a=some { cls:=.type "range",data:=.fields #[.int lo t,.int hi u,.int 1 v] }
 | .frz o u=>h.get? a=some o/\ObjOk H h a u
 | .tbl ps=>h.get? a=some { cls:=.none,data:=.fields ps }
 | .met f x=>h.get? a=some (PySem.W.methodObj (.ref f) (.ref x))
 | .ext φ=>φ h/\(∃o,h.get? a=some o)/\∀h1 h2:Heap,φ h1->(∀o,h1.get? a=some o->h2.get? a=some o)->φ h2
def HOk(H:Hp)(h:Heap):Prop:=∀a o,H a=some o->ObjOk P w H h a o
end
section
variable{P:Program}{w:World}{H H':Hp}{h h':Heap}{a:Addr}{o:HO}
theorem ObjOk.lt(x:ObjOk P w H h a o):a<h.objs.size:=by
 cases o with
 |lst xs=>obtain⟨_,_,_,_,e⟩:=x;exact Heap.lt_size e
 |tup xs=>obtain⟨_,_,_,p⟩:=x;exact p.lt
 |dK kvs=>obtain⟨_,_,_,_,o,_,_,e,_⟩:=x;exact Heap.lt_size e
 |dT kvs=>obtain⟨_,_,_,_,o,_,_,e,_⟩:=x;exact Heap.lt_size e
 |set S n=>obtain⟨o,_,_,_,e,_⟩:=x;exact Heap.lt_size e
 |ins C dx fs=>obtain⟨_,_,_,e,_⟩:=x;exact Heap.lt_size e
 |own y=>obtain⟨_,e⟩:=x;exact Heap.lt_size e
 |xd fs=>obtain⟨_,⟨_,_,_,e,_⟩,_⟩:=x;exact Heap.lt_size e
 |rng lo hi=>obtain⟨_,_,_,e⟩:=x;exact Heap.lt_size e
 |frz ob u=>obtain⟨e,_⟩:=x;exact Heap.lt_size e
 |tbl ps=>exact Heap.lt_size (show h.get? a=some _ from x)
 |met f y=>exact Heap.lt_size (show h.get? a=some _ from x)
 |ext φ=>obtain⟨_,⟨_,e⟩,_⟩:=x;exact Heap.lt_size e
theorem Paired.mapP{α β:Type}{F G:α->β->Prop}:∀{l₁:List α}{l₂:List β},Paired F l₁ l₂->(∀a b,F a b->G a b)->Paired G l₁ l₂
 |_,_,.nil,_=>.nil
 |_,_,.cons r t,f=>.cons (f _ _ r) (Paired.mapP t f)
theorem ObjOk.stay(x:ObjOk P w H h a o)(k:∀b u,(b=a\/H b=some (.own a))->h.get? b=some u->h'.get? b=some u)
  (ho:∀b,H b=some (.own a)->H' b=some (.own a)) (ht:∀b xs,H b=some (.tup xs)->H' b=some (.tup xs)):ObjOk P w H' h' a o:=by
 induction o with
 |lst xs=>obtain⟨z,its,n,r,e⟩:=x;exact⟨z,its,n,r,k _ _ (.inl rfl) e⟩
 |tup xs=>obtain⟨z,its,r,ob,e,c⟩:=x;exact⟨z,its,r,ob,k _ _ (.inl rfl) e,c⟩
 |dK kvs=>obtain⟨z,y,vs,r,ob,es,ep,e,c⟩:=x;exact⟨z,y,vs,r,ob,es,ep,k _ _ (.inl rfl) e,c⟩
 |dT kvs=>
  obtain⟨z,y,xs,r,ob,es,ep,e,c⟩:=x;exact⟨z,y,xs,Paired.mapP r λp q z=>⟨z.1,ht _ _ z.2.1,z.2.2⟩,ob,es,ep,k _ _ (.inl rfl) e,c⟩
 |set S n=>obtain⟨ob,es,ep,t,e,c⟩:=x;exact⟨ob,es,ep,t,k _ _ (.inl rfl) e,c⟩
 |ins C dx fs=>
  obtain⟨d,z,ne,e,mA,⟨od,es,ep,e2,c⟩,r⟩:=x;exact⟨ho _ d,z,ne,k _ _ (.inl rfl) e,mA,⟨od,es,ep,k _ _ (.inr d) e2,c⟩,r⟩
 |own y=>obtain⟨ob,e⟩:=x;exact⟨ob,k _ _ (.inl rfl) e⟩
 |xd fs=>obtain⟨mA,⟨od,es,ep,e,c⟩,r⟩:=x;exact⟨mA,⟨od,es,ep,k _ _ (.inl rfl) e,c⟩,r⟩
 |rng lo hi=>obtain⟨t,u,v,e⟩:=x;exact⟨t,u,v,k _ _ (.inl rfl) e⟩
 |frz ob u ih=>obtain⟨e,q⟩:=x;exact⟨k _ _ (.inl rfl) e,ih q⟩
 |tbl ps=>
  have e:h.get? a=some { cls:=.none,data:=.fields ps }:=x;show h'.get? a=some { cls:=.none,data:=.fields ps };exact k a _ (.inl rfl) e
 |met f y=>
  have e:h.get? a=some (PySem.W.methodObj (.ref f) (.ref y)):=x;show h'.get? a=some (PySem.W.methodObj (.ref f) (.ref y));exact k a _ (.inl rfl) e
 |ext φ=>obtain⟨p,⟨o,e⟩,st⟩:=x;exact⟨st _ _ p λo q=>k _ _ (.inl rfl) q,⟨o,k _ _ (.inl rfl) e⟩,st⟩
theorem HOk.lt(x:HOk P w H h)(e:H a=some o):a<h.objs.size:=(x a o e).lt
theorem HOk.fresh(x:HOk P w H h)(e:h.objs.size<=a):H a=none:=by
 cases q:H a with
 |none=>rfl
 |some u=>exact absurd (wG (x.lt q) e) (wp _)
theorem HOk.kept(x:HOk P w H h)(k:∀b u,h.get? b=some u->h'.get? b=some u):HOk P w H h':=λa o e=>
 (x a o e).stay (λb u _ q=>k b u q) (λ_ q=>q) λ_ _ q=>q
theorem HOk.laid(x:HOk P w H h)(k:∀b u,h.get? b=some u->h'.get? b=some u)(hp:h.objs.size<=a)(new:ObjOk P w (upd H a o) h' a o):HOk P w (upd H a o) h':=λb u e=>by
 have hn:=x.fresh hp;by_cases hb:b=a
 ·subst hb;rw[qC]at e;cases e;exact new
 ·rw[qE hb]at e;exact(x b u e).stay (λc v _ q=>k c v q) (λc q=>by rw[qE (ne_of_none q hn)];exact q) λc xs q=>by rw[qE (ne_of_none q hn)];exact q
end
def Rd(H:Hp)(a:Addr)(u:HO):Prop:=H a=some u\/∃o,H a=some (.frz o u)
theorem Rd.ok{P:Program}{w:World}{H:Hp}{h:Heap}{a:Addr}{u:HO}(r:Rd H a u)(x:HOk P w H h):ObjOk P w H h a u:=by
 rcases r with r|⟨o,r⟩
 ·exact x a u r
 ·obtain⟨_,q⟩:=x a _ r;exact q
def Mut:Option HO->Prop
 |some (.lst _)=>True
 |some (.dK _)=>True
 |some (.dT _)=>True
 |some (.set _ _)=>True
 |some (.ins _ _ _)=>True
 |some (.ext _)=>True
 |_=>False
section
variable{P:Program}{w:World}{H:Hp}{h h':Heap}{x e:Addr}{o':HO}
theorem HOk.write(ok:HOk P w H h)(mu:Mut (H x))(he:e=x\/H e=some (.own x))(k:∀b u,b≠e->h.get? b=some u->h'.get? b=some u)(heo:∃u,h'.get? e=some u)
  (new:ObjOk P w (upd H x o') h' x o'):HOk P w (upd H x o') h':=λb u q=>by
 have nown:∀c y,H c=some (.own y)->c≠x:=λc y r z=>by subst z;rw[r]at mu;exact mu
 have ntup:∀c xs,H c=some (.tup xs)->c≠x:=λc xs r z=>by subst z;rw[r]at mu;exact mu
 by_cases hb:b=x
 ·subst hb;rw[qC]at q;cases q;exact new
 ·rw[qE hb]at q;by_cases hbe:b=e
  ·have q':H b=some (.own x):=by
    rcases he with z|z
    ·exact absurd (hbe.trans z) hb
    ·rw[hbe];exact z
   rw[q]at q';cases q';obtain⟨v,hv⟩:=heo;exact⟨v,by rw[hbe];exact hv⟩
  ·refine(ok b u q).stay (λc v hc r=>k c v ?_ r) (λc r=>by rw[qE (nown c b r)];exact r) λc xs r=>by rw[qE (ntup c xs r)];exact r
   rcases hc with rfl|hc
   ·exact hbe
   ·rintro rfl;rcases he with z|z
    ·exact nown c b hc z
    ·rw[hc]at z;cases z;exact hb rfl
end
structure Un(fs ex:List Addr)(H H':Hp)(h h':Heap):Prop where
 keep:∀b o,h.get? b=some o->H b=none->b∉fs->b∉ex->h'.get? b=some o
 slot:∀b o,h.get? b=some o->H b=none->b∈fs->b∉ex->∃sl,h'.get? b=some { o with slots:=sl }
 free:∀b o,h.get? b=some o->H b=none->b∉ex->H' b=none
 there:∀b o,h.get? b=some o->b∉ex->∃o',h'.get? b=some o'
 tups:∀b xs,H b=some (.tup xs)->H' b=some (.tup xs)
 frzs:∀b o u,H b=some (.frz o u)->H' b=some (.frz o u)
 tbls:∀b ps,H b=some (.tbl ps)->∃more,H' b=some (.tbl (ps++more))
section
variable{fs fs' ex ex':List Addr}{H H1 H2:Hp}{h h1 h2 h':Heap}{a x e:Addr}{o:HO}
theorem Un.any(u:Un fs ex H H1 h h1){b:Addr}{ob:Obj}(q:h.get? b=some ob)(n:H b=none)(hx:b∉ex):∃sl,h1.get? b=some { ob with slots:=sl }:=by
 by_cases hb:b∈fs
 ·exact u.slot b ob q n hb hx
 ·exact⟨ob.slots,u.keep b ob q n hb hx⟩
theorem Un.kept(k:∀b u,h.get? b=some u->h'.get? b=some u):Un fs ex H H h h':=
 ⟨λb ob q _ _ _=>k b ob q,λb ob q _ _ _=>⟨ob.slots,k b ob q⟩,λ_ _ _ n _=>n,λb ob q _=>⟨ob,k b ob q⟩,λ_ _ q=>q,λ_ _ _ q=>q,λ_ ps q=>⟨#[],by rw[q];simp⟩⟩
theorem Un.refl:Un fs ex H H h h:=Un.kept λ_ _ q=>q
theorem Un.laid(k:∀b u,h.get? b=some u->h'.get? b=some u)(hp:h.objs.size<=a)(hn:H a=none):Un fs ex H (upd H a o) h h' where
 keep:=λb u q _ _ _=>k b u q
 slot:=λb u q _ _ _=>⟨u.slots,k b u q⟩
 free:=λb u q n _=>by rw[qE (wj (wG (Heap.lt_size q) hp))];exact n
 there:=λb u q _=>⟨u,k b u q⟩
 tups:=λb xs q=>by rw[qE (ne_of_none q hn)];exact q
 frzs:=λb u xs q=>by rw[qE (ne_of_none q hn)];exact q
 tbls:=λb ps q=>⟨#[],by rw[qE (ne_of_none q hn),q];simp⟩
theorem Un.write(mu:Mut (H x))(he:e=x\/H e=some (.own x))(k:∀b u,b≠e->h.get? b=some u->h'.get? b=some u)(heo:∃u,h'.get? e=some u):Un fs ex H (upd H x o) h h':=by
 have hx:∀b,H b=none->b≠x:=λb n z=>by subst z;rw[n]at mu;exact mu
 have hb:∀b,H b=none->b≠e:=λb n z=>by
  subst z;rcases he with r|r
  ·exact hx b n r
  ·rw[n]at r;cases r
 have hm:∀b u,H b=some u->¬ Mut (some u)->b≠x:=λb u q nm z=>by subst z;rw[q]at mu;exact nm mu
 refine⟨λb u q n _ _=>k b u (hb b n) q,λb u q n _ _=>⟨u.slots,k b u (hb b n) q⟩,λb u q n _=>by rw[qE (hx b n)];exact n,λb u q _=>?_,
  λb xs q=>by rw[qE (hm b _ q λz=>z)];exact q,λb u xs q=>by rw[qE (hm b _ q λz=>z)];exact q,λb ps q=>⟨#[],by rw[qE (hm b _ q λz=>z),q];simp⟩⟩
 by_cases hbe:b=e
 ·subst hbe;exact heo
 ·exact⟨u,k b u hbe q⟩
end
noncomputable def trk(h:Heap)(H:Hp):List Addr:=(List.range h.objs.size).filter λa=>(H a).isSome
noncomputable def l9(h:Heap)(H:Hp):Heap:=PySem.W.hideAll h (trk h H)
theorem S3(h:Heap)(H:Hp):(l9 h H).objs.size=h.objs.size:=PySem.W.hideAll_size _ _
theorem u9{h:Heap}{H:Hp}{b:Addr}{o:Obj}(e:h.get? b=some o)(n:H b=none):(l9 h H).get? b=some o:=
 PySem.W.hideAll_get _ e λhm=>by
  have q:(H b).isSome=true:=(we.mp hm).2;rw[n]at q;simp at q
theorem qB2{h:Heap}{H:Hp}{b:Addr}{o:Obj}(e:(l9 h H).get? b=some o):h.get? b=some o/\H b=none:=by
 have e':h.get? b=some o:=PySem.W.of_hideAll (trk h H) e;refine⟨e',?_⟩;cases q:H b with
 |none=>rfl
 |some x=>
  have hm:b∈trk h H:=we.mpr ⟨wZ.mpr (Heap.lt_size e'),by simp[q]⟩;have z:(l9 h H).get? b=none:=PySem.W.hideAll_none (trk h H) hm;rw[z]at e;cases e
noncomputable def qCd(g h:Heap)(L:Addr):List (Addr×Obj):=(List.range h.objs.size).filterMap λa=>if a=L\/(g.get? a).isSome=true then none else (h.get? a).map λo=>(a,o)
noncomputable def rest(g h:Heap)(L d:Addr):List (Addr×Obj):=(qCd g h L).filter λp=>decide (p.1≠d)
structure Mod(K:PySem.W.Frag)(mg:Str->Option Value)(base:Heap):Prop where
 kin:K.In base
 glob:base.Ns mainGlobals mg
 blt:∃mb,base.Ns builtinsNs mb/\∀x:Str,x≠"__name__" -> mb x=bootBuiltins x
 nolimit:base.NoLimit
set_option genInjectivity false in structure Cx where
 prog:Program
 w:World
 K:PySem.W.Frag
 mg:Str->Option Value
 base:Heap
 A:Around
 N:List Str
 s₀:Shared
 H₀:Hp
 env:Env
 outer:List Env
 stack:List Env
 ex:List Addr
 fn:Str->Bool
 calm:Bool
 pn:List (Addr×Obj)
 xe:Value->Shared->Prop
noncomputable def frs(l:List Env):List Addr:=l.filterMap (·.frame)
noncomputable abbrev Cx.fs(X:Cx):List Addr:=frs X.outer
def Vis(sc:Scope)(x:Str):Prop:=sc.names.lookup x=some .local\/sc.names.lookup x=some .cell\/sc.names.lookup x=some .free
def Loc(sc:Scope)(x:Str):Prop:=sc.names.lookup x=some .local\/sc.names.lookup x=some .cell
def qHb(env:Env)(h:Heap)(m:Str->Option Value)(x:Str)(u:Value):Prop:=
 (env.kindOf x=some .local/\m x=some u)\/((env.kindOf x=some .cell\/env.kindOf x=some .free)/\∃c,env.cells.lookup x=some c/\h.IsCell c (some u))
structure Cx.Ok(X:Cx):Prop where
 mod:Mod X.K X.mg X.base
 kind:X.env.scope.kind=.function
 glob:X.env.globals=mainGlobals
 blt:X.env.builtins=builtinsNs
 above:X.s₀.heap.objs.size<=X.env.locals
 inj:∀x y c,X.env.cells.lookup x=some c->X.env.cells.lookup y=some c->x=y
 has:∀x,(X.env.kindOf x=some .cell\/X.env.kindOf x=some .free)->∃c,X.env.cells.lookup x=some c
 cab:∀x c,X.fn x=true->X.env.cells.lookup x=some c->X.s₀.heap.objs.size<=c
 hd:X.calm=true->X.A.handled=none
 frames:X.A.frames=some X.stack
 stk:X.stack=X.outer\/(X.stack=X.env::X.outer/\X.env.frame=some X.env.locals)
 exf:∀b∈X.ex,b≠X.env.locals/\∀x c,X.env.cells.lookup x=some c->c≠b
 bs:∀b o,X.base.get? b=some o->X.s₀.heap.get? b=some o/\X.H₀ b=none
 bsz:X.base.objs.size<=X.s₀.heap.objs.size
 noex:∀b o,X.base.get? b=some o->b∉X.ex
 exfs:∀b∈X.ex,b∉X.fs
 funs:X.s₀.heap.FunFrames X.base X.outer
 frf:∀b∈X.fs,X.H₀ b=none
structure Inv(X:Cx)(pins:List (Addr×Obj))(σ:List (Option V))(H:Hp)(s:Shared):Prop where
 ok:X.Ok
 os:s.os=X.s₀.os
 bare:AllBare s.gens
 base:Un X.fs X.ex X.H₀ H X.s₀.heap s.heap
 loc:∃m,s.heap.Ns X.env.locals m/\∀(i:Nat) (x:Str) (v:V),X.N[i]?=some x->σ[i]?=some (some v)->Vis X.env.scope x->∃u,RelV v u/\qHb X.env s.heap m x u
 cell:∀x c,X.env.cells.lookup x=some c->∃v,s.heap.IsCell c v
 free:H X.env.locals=none
 freeC:∀x c,X.env.cells.lookup x=some c->H c=none
 pin:∀p∈X.pn++pins,s.heap.get? p.1=some p.2/\H p.1=none/\p.1≠X.env.locals/\p.1∉X.fs/\∀v,p.2.data≠.cell v
 hok:HOk X.prog X.w H s.heap
 len:σ.length=X.N.length
section
variable{X:Cx}{pins:List (Addr×Obj)}{σ:List (Option V)}{H H':Hp}{s:Shared}{h':Heap}
theorem Cx.Ok.nofr(ok:X.Ok){b:Addr}{o:Obj}(e:X.base.get? b=some o):b∉X.fs:=λhb=>by
 have:=(ok.funs.mem hb).1;rw[e]at this;cases this
theorem Inv.bs(I:Inv X pins σ H s):∀b o,X.base.get? b=some o->s.heap.get? b=some o/\H b=none:=λb o e=>
 ⟨I.base.keep b o (I.ok.bs b o e).1 (I.ok.bs b o e).2 (I.ok.nofr e) (I.ok.noex b o e),I.base.free b o (I.ok.bs b o e).1 (I.ok.bs b o e).2 (I.ok.noex b o e)⟩
theorem Inv.bk(I:Inv X pins σ H s):∀b o,X.base.get? b=some o->s.heap.get? b=some o:=λb o e=>(I.bs b o e).1
theorem Inv.mod(I:Inv X pins σ H s):Mod X.K X.mg X.base:=I.ok.mod
theorem Inv.kIn(I:Inv X pins σ H s):X.K.In s.heap:=I.ok.mod.kin.keeps I.bk
theorem Inv.lt(I:Inv X pins σ H s):X.env.locals<s.heap.objs.size:=let ⟨_,hn,_⟩:=I.loc;hn.lt
theorem Inv.sz(I:Inv X pins σ H s):X.s₀.heap.objs.size<=s.heap.objs.size:=wS I.ok.above (vQ I.lt)
theorem Inv.nofs(I:Inv X pins σ H s){a:Addr}(h:s.heap.objs.size<=a):a∉X.fs:=λhb=>by
 obtain⟨_,o,ho,_⟩:=I.ok.funs.mem hb;exact absurd (wG (Heap.lt_size ho) (wS I.sz h)) (wp _)
theorem Inv.cne(I:Inv X pins σ H s):∀x c,X.env.cells.lookup x=some c->c≠X.env.locals:=λx c e z=>by
 obtain⟨v,o,ho,hd⟩:=I.cell x c e;obtain⟨m,⟨o',es,ep,ho',hd',_⟩,_⟩:=I.loc;rw[z,ho']at ho;cases ho;rw[hd']at hd;cases hd
theorem Inv.funs(I:Inv X pins σ H s):s.heap.FunFrames X.base X.outer:=by
 have all:∀(l:List Env),(∀b∈frs l,b∈X.fs)->X.s₀.heap.FunFrames X.base l->s.heap.FunFrames X.base l:=by
  intro l
  induction l with
  |nil=>intro _ _;trivial
  |cons env r ih=>
   intro hs hl;obtain⟨hk,⟨L,o,hf,hn,ho,hd⟩,hr⟩:=hl;have hL:L∈X.fs:=hs L (by unfold frs;rw[List.filterMap_cons,hf];exact wU);obtain⟨sl,e⟩:=I.base.slot L o ho (I.ok.frf L hL) hL λz=>I.ok.exfs L z hL;exact⟨hk,⟨L,_,hf,hn,e,hd⟩,ih (λb hb=>hs b (by unfold frs;rw[List.filterMap_cons,hf];exact wL _ hb)) hr⟩
 exact all X.outer (λ_ hb=>hb) I.ok.funs
theorem Inv.stack(I:Inv X pins σ H s):s.heap.FunFrames X.base X.stack:=by
 rcases I.ok.stk with e|⟨e,hf⟩
 ·rw[e];exact I.funs
 ·rw[e];obtain⟨m,hn,_⟩:=I.loc;refine .cons (by rw[I.ok.kind];decide) hf hn ?_ I.funs;exact Heap.get?_none_of_le (wS I.ok.bsz I.ok.above)
theorem Inv.stkSub(I:Inv X pins σ H s):∀b∈frs X.stack,b∈X.env.locals::X.fs:=λb hb=>by
 rcases I.ok.stk with e|⟨e,hf⟩
 ·rw[e]at hb;exact wL _ hb
 ·rw[e]at hb;unfold frs at hb;rw[List.filterMap_cons,hf]at hb;exact hb
theorem Inv.stkFree(I:Inv X pins σ H s):∀b∈frs X.stack,H b=none:=λb hb=>by
 rcases wJ.mp (I.stkSub b hb) with e|hb
 ·rw[e];exact I.free
 ·obtain⟨_,o,ho,_⟩:=I.ok.funs.mem hb;exact I.base.free b o ho (I.ok.frf b hb) λz=>I.ok.exfs b z hb
theorem Inv.step{g':Array GenState}{t':Nat}{d':Drawn}{ch:List Addr}(I:Inv X pins σ H s)
  (hch:∀b∈ch,(b∈X.ex\/X.s₀.heap.objs.size<=b)/\b≠X.env.locals/\(∀x c,X.env.cells.lookup x=some c->c≠b)/\∀p∈X.pn++pins,p.1≠b)
  (keep:∀b o,b≠X.env.locals->b∉X.fs->b∉ch->s.heap.get? b=some o->H b=none->h'.get? b=some o)
  (slot:∀b o,b≠X.env.locals->b∈X.fs->b∉ch->s.heap.get? b=some o->H b=none->∃sl,h'.get? b=some { o with slots:=sl }) (free:∀b o,b∉ch->s.heap.get? b=some o->H b=none->H' b=none)
  (there:∀b o,b∉ch->s.heap.get? b=some o->∃o',h'.get? b=some o')
  (tups:∀b xs,H b=some (.tup xs)->H' b=some (.tup xs)) (frzs:∀b o u,H b=some (.frz o u)->H' b=some (.frz o u)) (tbls:∀b ps,H b=some (.tbl ps)->∃more,H' b=some (.tbl (ps++more)))
  (ns:∀m,s.heap.Ns X.env.locals m->h'.Ns X.env.locals m) (hok:HOk X.prog X.w H' h') (hg:AllBare g'):
  Inv X pins σ H' { s with heap:=h',gens:=g',drawn:=d',toks:=t' }:=by
 have neL:∀b o,X.s₀.heap.get? b=some o->b≠X.env.locals:=λb o e=>wj (wG (Heap.lt_size e) I.ok.above);have neC:∀b o,X.s₀.heap.get? b=some o->b∉X.ex->b∉ch:=λb o e hx hb=>by
  rcases(hch b hb).1 with z|z
  ·exact hx z
  ·exact absurd (wG (Heap.lt_size e) z) (wp _)
 have cellK:∀x c,X.env.cells.lookup x=some c->∀v,s.heap.IsCell c v->h'.IsCell c v:=λx c e v ⟨o,ho,hd⟩=>by
  have nch:c∉ch:=λz=>(hch c z).2.2.1 x c e rfl;by_cases hc:c∈X.fs
  ·obtain⟨sl,q⟩:=slot c o (I.cne x c e) hc nch ho (I.freeC x c e);exact⟨_,q,hd⟩
  ·exact⟨o,keep c o (I.cne x c e) hc nch ho (I.freeC x c e),hd⟩
 refine⟨I.ok,I.os,hg,⟨λb o e n hb hx=>?_,λb o e n hb hx=>?_,λb o e n hx=>?_,λb o e hx=>?_,λb xs e=>tups b xs (I.base.tups b xs e),λb o xs e=>frzs b o xs (I.base.frzs b o xs e),λb ps e=>?_⟩,?_,λx c e=>?_,?_,λx c e=>?_,λp hp=>?_,hok,I.len⟩
 ·exact keep b o (neL b o e) hb (neC b o e hx) (I.base.keep b o e n hb hx) (I.base.free b o e n hx)
 ·obtain⟨sl,e1⟩:=I.base.slot b o e n hb hx;obtain⟨sl',e2⟩:=slot b _ (neL b o e) hb (neC b o e hx) e1 (I.base.free b o e n hx);exact⟨sl',e2⟩
 ·obtain⟨o',e1⟩:=I.base.there b o e hx;exact free b o' (neC b o e hx) e1 (I.base.free b o e n hx)
 ·obtain⟨o',e1⟩:=I.base.there b o e hx;exact there b o' (neC b o e hx) e1
 ·obtain⟨m1,e1⟩:=I.base.tbls b ps e;obtain⟨m2,e2⟩:=tbls b _ e1;exact⟨m1++m2,by rw[e2,Array.append_assoc]⟩
 ·obtain⟨m,hn,hl⟩:=I.loc;refine⟨m,ns m hn,λi x v e1 e2 e3=>?_⟩;obtain⟨u,r,l⟩:=hl i x v e1 e2 e3;refine⟨u,r,?_⟩;rcases l with l|⟨k,c,e,z⟩
  ·exact .inl l
  ·exact .inr ⟨k,c,e,cellK x c e _ z⟩
 ·obtain⟨v,z⟩:=I.cell x c e;exact⟨v,cellK x c e v z⟩
 ·obtain⟨m,⟨o,_,_,ho,_⟩,_⟩:=I.loc;exact free _ o (λz=>(hch _ z).2.1 rfl) ho I.free
 ·obtain⟨v,o,ho,hd⟩:=I.cell x c e;exact free c o (λz=>(hch c z).2.2.1 x c e rfl) ho (I.freeC x c e)
 ·obtain⟨e,n,ne,nf,d⟩:=I.pin p hp;have nch:p.1∉ch:=λz=>(hch p.1 z).2.2.2 p hp rfl;exact⟨keep p.1 p.2 ne nf nch e n,free p.1 p.2 nch e n,ne,nf,d⟩
theorem Inv.un{t':Nat}(I:Inv X pins σ H s)(u:Un X.fs [] H H' s.heap h')(hok:HOk X.prog X.w H' h'):Inv X pins σ H' { s with heap:=h',toks:=t' }:=by
 obtain⟨m,⟨o,es,ep,ho,r⟩,_⟩:=id I.loc;obtain⟨sl,hL⟩:=u.any ho I.free (by simp);exact I.step (g':=s.gens) (d':=s.drawn) (ch:=[]) (λ_ z=>nomatch z) (λb o _ hb _ e n=>u.keep b o e n hb (by simp)) (λb o _ hb _ e n=>u.slot b o e n hb (by simp)) (λb o _ e n=>u.free b o e n (by simp)) (λb o _ e=>u.there b o e (by simp)) u.tups u.frzs u.tbls (λm' hm=>by
  obtain⟨o',es',ep',ho',r'⟩:=hm;rw[ho]at ho';cases ho';exact⟨_,es',ep',hL,r'⟩) hok I.bare
theorem Inv.call{g':Array GenState}{t':Nat}{d':Drawn}{ch:List Addr}(I:Inv X pins σ H s)(u:Un (frs X.stack) ch H H' s.heap h')(hok:HOk X.prog X.w H' h')(hg:AllBare g')
  (hch:∀b∈ch,(b∈X.ex\/X.s₀.heap.objs.size<=b)/\b≠X.env.locals/\(∀x c,X.env.cells.lookup x=some c->c≠b)/\∀p∈X.pn++pins,p.1≠b):
  Inv X pins σ H' { s with heap:=h',gens:=g',drawn:=d',toks:=t' }:=by
 obtain⟨m,⟨o,es,ep,ho,r⟩,_⟩:=id I.loc;obtain⟨sl,hL⟩:=u.any ho I.free λz=>(hch _ z).2.1 rfl;exact I.step (ch:=ch) hch (λb o hL hb hc e n=>u.keep b o e n (λz=>(wJ.mp (I.stkSub b z)).elim hL hb) hc) (λb o _ _ hc e n=>u.any e n hc) (λb o hc e n=>u.free b o e n hc) (λb o hc e=>u.there b o e hc) u.tups u.frzs u.tbls (λm' hm=>by
  obtain⟨o',es',ep',ho',r'⟩:=hm;rw[ho]at ho';cases ho';exact⟨_,es',ep',hL,r'⟩) hok hg
theorem Inv.turned{t':Nat}{it:Addr}(I:Inv X pins σ H s)(k:∀b o,b≠it->s.heap.get? b=some o->h'.get? b=some o)(hn:H it=none)(hL:it≠X.env.locals)
  (h1:it∈X.ex\/X.s₀.heap.objs.size<=it) (h2:∀x c,X.env.cells.lookup x=some c->c≠it) (h3:∀p∈X.pn++pins,p.1≠it):Inv X pins σ H { s with heap:=h',toks:=t' }:=by
 have nit:∀b u,H b=some u->b≠it:=λb u e z=>by rw[z,hn]at e;cases e
 refine I.step (g':=s.gens) (d':=s.drawn) (ch:=[it]) (λb hb=>?_) (λb o _ _ hc e _=>k b o (λz=>hc (by simp[z])) e) (λb o _ _ hc e _=>⟨o.slots,k b o (λz=>hc (by simp[z])) e⟩) (λ_ _ _ _ n=>n)
  (λb o hc e=>⟨o,k b o (λz=>hc (by simp[z])) e⟩) (λ_ _ e=>e) (λ_ _ _ e=>e) (λb ps e=>⟨#[],by rw[e];simp⟩) (λm hm=>?_) (λb u e=>?_) I.bare
 ·have e:b=it:=by simpa using hb
  subst e;exact⟨h1,hL,h2,h3⟩
 ·obtain⟨o,es,ep,ho,r⟩:=hm;exact⟨o,es,ep,k _ o (Ne.symm hL) ho,r⟩
 ·refine(I.hok b u e).stay (λc v hc q=>k c v ?_ q) (λ_ q=>q) λ_ _ q=>q;rcases hc with z|z
  ·rw[z];exact nit b u e
  ·exact nit c _ z
theorem Inv.tok(I:Inv X pins σ H s)(t:Nat):Inv X pins σ H { s with toks:=t }:=I.un (h':=s.heap) (t':=t) Un.refl I.hok
theorem Inv.kept{t':Nat}(I:Inv X pins σ H s)(k:∀b u,s.heap.get? b=some u->h'.get? b=some u):Inv X pins σ H { s with heap:=h',toks:=t' }:=I.un (Un.kept k) (I.hok.kept k)
theorem Inv.laid{a:Addr}{o:HO}{t':Nat}(I:Inv X pins σ H s)(k:∀b u,s.heap.get? b=some u->h'.get? b=some u)(hp:s.heap.objs.size<=a)(new:ObjOk X.prog X.w (upd H a o) h' a o):
  Inv X pins σ (upd H a o) { s with heap:=h',toks:=t' }:=I.un (Un.laid k hp (I.hok.fresh hp)) (I.hok.laid k hp new)
theorem Inv.write{x e:Addr}{o:HO}{t':Nat}(I:Inv X pins σ H s)(mu:Mut (H x))(he:e=x\/H e=some (.own x))(k:∀b u,b≠e->s.heap.get? b=some u->h'.get? b=some u)(heo:∃u,h'.get? e=some u)
  (new:ObjOk X.prog X.w (upd H x o) h' x o):Inv X pins σ (upd H x o) { s with heap:=h',toks:=t' }:=I.un (Un.write mu he k heo) (I.hok.write mu he k heo new)
theorem Inv.pins_of{pins':List (Addr×Obj)}(I:Inv X pins σ H s)(h:∀p∈pins',s.heap.get? p.1=some p.2/\H p.1=none/\p.1≠X.env.locals/\p.1∉X.fs/\∀v,p.2.data≠.cell v):Inv X pins' σ H s:=
 ⟨I.ok,I.os,I.bare,I.base,I.loc,I.cell,I.free,I.freeC,λp hp=>(wF.mp hp).elim (λz=>I.pin p (wN _ z)) (h p),I.hok,I.len⟩
theorem K9{N:List Str}(hN:N.Nodup){i j:Nat}{x:Str}(a:N[i]?=some x)(b:N[j]?=some x):i=j:=by
 obtain⟨h1,e1⟩:=wB.mp a;obtain⟨h2,e2⟩:=wB.mp b;exact(List.getElem_inj hN).mp (e1.trans e2.symm)
theorem JL{M:Model}{A:Around}{E:Value->Shared->Prop}{i:Nat}{x:Str}{v:V}{u:Value}{Q:Unit->Shared->Prop}(I:Inv X pins σ H s)(hN:X.N.Nodup)(hi:X.N[i]?=some x)(hx:Loc X.env.scope x)(r:RelV v u)
  (h:∀s',Inv X pins (σ.set i (some v)) H s'->(∃a,Heap.SameBut a s.heap s'.heap/\(a=X.env.locals\/X.env.cells.lookup x=some a))->Q () s') (hf:X.fn x=true\/X.env.scope.names.lookup x=some .local:=by first|exact .inl rfl|exact .inr rfl|assumption):wpAny M A (storeName X.env x u) Q E s:=by
 obtain⟨m,hn,hl⟩:=id I.loc;have hcls:(X.env.scope.kind==.class||(X.env.scope.kind==.module&&X.env.locals != X.env.globals))=false:=by rw[I.ok.kind];rfl
 have hiσ:i<σ.length:=by rw[I.len];exact(wB.mp hi).1
 have cne:=I.cne;have tracked:∀{a:Addr}{h':Heap},(∃o,s.heap.get? a=some o/\H a=none)->Heap.SameBut a s.heap h'->HOk X.prog X.w H h':=λ{a h'} ha hs b ob e=>by
  obtain⟨_,_,hfree⟩:=ha;refine(I.hok b ob e).stay (λc w' hc q=>(hs.2 c ?_).trans q) (λ_ q=>q) λ_ _ q=>q;rintro rfl;rcases hc with rfl|hc
  ·rw[hfree]at e;cases e
  ·rw[hfree]at hc;cases hc
 rcases hx with hk|hk
 ·refine wpAny_storeName_local hk hn (λh' hn' hs=>?_) hcls;obtain⟨oL,_,_,hoL,_⟩:=id hn;refine h _ ⟨I.ok,I.os,I.bare,⟨λb o e n hb hx=>?_,λb o e n hb hx=>?_,I.base.free,λb o e hx=>?_,I.base.tups,I.base.frzs,I.base.tbls⟩,⟨_,hn',λj y v' e1 e2 e3=>?_⟩,λy c e=>?_,I.free,I.freeC,λp hp=>?_,tracked ⟨oL,hoL,I.free⟩ hs,by simpa using I.len⟩ ⟨_,hs,.inl rfl⟩
  ·exact(hs.2 b (wj (wG (Heap.lt_size e) I.ok.above))).trans (I.base.keep b o e n hb hx)
  ·obtain⟨sl,e1⟩:=I.base.slot b o e n hb hx;exact⟨sl,(hs.2 b (wj (wG (Heap.lt_size e) I.ok.above))).trans e1⟩
  ·obtain⟨o',e1⟩:=I.base.there b o e hx;exact⟨o',(hs.2 b (wj (wG (Heap.lt_size e) I.ok.above))).trans e1⟩
  ·by_cases hj:j=i
   ·subst hj;rw[hi]at e1;cases e1;rw[wb hiσ]at e2;cases e2;exact⟨u,r,.inl ⟨hk,by simp⟩⟩
   ·rw[wX (Ne.symm hj)]at e2;obtain⟨u',r',q⟩:=hl j y v' e1 e2 e3;refine⟨u',r',?_⟩;rcases q with⟨k,e⟩|⟨k,c,e,z⟩
    ·refine .inl ⟨k,?_⟩;have:y≠x:=λe=>hj (K9 hN e1 (e ▸ hi));simp[this,e]
    ·exact .inr ⟨k,c,e,z.sameBut hs (cne y c e)⟩
  ·obtain⟨w',z⟩:=I.cell y c e;exact⟨w',z.sameBut hs (cne y c e)⟩
  ·obtain⟨e,n,ne,nf,d⟩:=I.pin p hp;exact⟨(hs.2 p.1 ne).trans e,n,ne,nf,d⟩
 ·have hfn:X.fn x=true:=by
   rcases hf with z|z
   ·exact z
   ·rw[z]at hk;cases hk
  obtain⟨c,hc⟩:=I.ok.has x (.inl hk);obtain⟨w',z⟩:=I.cell x c hc;refine wpAny_storeName_cell I.ok.kind hk hc z (λh' hc' hs=>?_);obtain⟨oc,hoc,hocd⟩:=id z;refine h { s with heap:=h' } ⟨I.ok,I.os,I.bare,⟨λb o e n hb hx=>?_,λb o e n hb hx=>?_,I.base.free,λb o e hx=>?_,I.base.tups,I.base.frzs,I.base.tbls⟩,⟨m,hn.sameBut hs (Ne.symm (cne x c hc)),λj y v' e1 e2 e3=>?_⟩,λy c' e=>?_,I.free,I.freeC,λp hp=>?_,tracked ⟨oc,hoc,I.freeC x c hc⟩ hs,by simpa using I.len⟩ ⟨c,hs,.inr hc⟩
  ·exact(hs.2 b (wj (wG (Heap.lt_size e) (I.ok.cab x c hfn hc)))).trans (I.base.keep b o e n hb hx)
  ·obtain⟨sl,e1⟩:=I.base.slot b o e n hb hx;exact⟨sl,(hs.2 b (wj (wG (Heap.lt_size e) (I.ok.cab x c hfn hc)))).trans e1⟩
  ·obtain⟨o',e1⟩:=I.base.there b o e hx;exact⟨o',(hs.2 b (wj (wG (Heap.lt_size e) (I.ok.cab x c hfn hc)))).trans e1⟩
  ·by_cases hj:j=i
   ·subst hj;rw[hi]at e1;cases e1;rw[wb hiσ]at e2;cases e2;exact⟨u,r,.inr ⟨.inl hk,c,hc,hc'⟩⟩
   ·rw[wX (Ne.symm hj)]at e2;obtain⟨u',r',q⟩:=hl j y v' e1 e2 e3;refine⟨u',r',?_⟩;rcases q with q|⟨k,c',e,z'⟩
    ·exact .inl q
    ·refine .inr ⟨k,c',e,z'.sameBut hs ?_⟩;rintro rfl;exact hj (K9 hN e1 (I.ok.inj _ _ _ e hc ▸ hi))
  ·by_cases hcc:c'=c
   ·subst hcc;exact⟨_,hc'⟩
   ·obtain⟨w2,z2⟩:=I.cell y c' e;exact⟨w2,z2.sameBut hs hcc⟩
  ·obtain⟨e,n,ne,nf,d⟩:=I.pin p hp;refine⟨(hs.2 p.1 ?_).trans e,n,ne,nf,d⟩;intro q;rw[q,hoc]at e;have q':oc=p.2:=Option.some.inj e;exact d w' (by rw[<-q'];exact hocd)
theorem je{M:Model}{A:Around}{E:Value->Shared->Prop}{i:Nat}{x:Str}{v:V}{u:Value}{Q:Unit->Shared->Prop}(I:Inv X pins σ H s)(hN:X.N.Nodup)(hi:X.N[i]?=some x)(hx:Loc X.env.scope x)(r:RelV v u)
  (h:∀s',Inv X pins (σ.set i (some v)) H s'->Q () s') (hf:X.fn x=true\/X.env.scope.names.lookup x=some .local:=by first|exact .inl rfl|exact .inr rfl|assumption):wpAny M A (storeName X.env x u) Q E s:=
 JL I hN hi hx r (λs' I' _=>h s' I') hf
theorem Inv.call'{s':Shared}{ch:List Addr}(I:Inv X pins σ H s)(ho:s'.os=s.os)(u:Un (frs X.stack) ch H H' s.heap s'.heap)(hok:HOk X.prog X.w H' s'.heap)(hg:AllBare s'.gens)
  (hch:∀b∈ch,(b∈X.ex\/X.s₀.heap.objs.size<=b)/\b≠X.env.locals/\(∀x c,X.env.cells.lookup x=some c->c≠b)/\∀p∈X.pn++pins,p.1≠b):Inv X pins σ H' s':=by
 obtain⟨h',g',d',t',o'⟩:=s';have e:o'=s.os:=ho;subst e;exact I.call (g':=g') (t':=t') (d':=d') u hok hg hch
end
noncomputable abbrev XK:=Value->Option Addr->Hp->Prop
noncomputable abbrev St:=List (Option V)
noncomputable abbrev VK:=V->Hp->Prop
noncomputable abbrev TE:=St->Hp->VK->Prop
noncomputable abbrev TT:=St->Hp->(Bool->Hp->Prop)->Prop
noncomputable abbrev TA:=St->Hp->(List V->Hp->Prop)->Prop
structure N8 where
 nx:St->Hp->Prop
 rt:VK
 bk:St->Hp->Prop:=λ_ _=>False
 ct:St->Hp->Prop:=λ_ _=>False
noncomputable abbrev TS:=N8->St->Hp->Prop
def EP(X:Cx)(pins:List (Addr×Obj))(σ:St)(Q:VK)(u:Value)(s':Shared):Prop:=∃v H',Inv X pins σ H' s'/\RelV v u/\Q v H'
def TP(X:Cx)(pins:List (Addr×Obj))(σ:St)(Q:Bool->Hp->Prop)(b:Bool)(s':Shared):Prop:=∃H',Inv X pins σ H' s'/\Q b H'
def AP(X:Cx)(pins:List (Addr×Obj))(σ:St)(Q:List V->Hp->Prop)(us:List Value)(s':Shared):Prop:=∃vs H',Inv X pins σ H' s'/\Vals vs us/\Q vs H'
def SP(X:Cx)(pins:List (Addr×Obj))(D:N8)(f:Flow)(s':Shared):Prop:=
 match f with
 | .next=>∃σ' H',Inv X pins σ' H' s'/\D.nx σ' H'
 | .brk=>∃σ' H',Inv X pins σ' H' s'/\D.bk σ' H'
 | .cont=>∃σ' H',Inv X pins σ' H' s'/\D.ct σ' H'
 | .ret u=>∃v σ' H',Inv X pins σ' H' s'/\RelV v u/\D.rt v H'
def PE(X:Cx)(e:Expr)(t:TE):Prop:=
 ∀(pins:List (Addr×Obj)) (s:Shared) (σ:St) (H:Hp) (Q:VK),Inv X pins σ H s->t σ H Q->wpAny (model X.prog X.w) X.A (eval e X.env) (EP X pins σ Q) X.xe s
def PT(X:Cx)(e:Expr)(t:TT):Prop:=
 ∀(pins:List (Addr×Obj)) (s:Shared) (σ:St) (H:Hp) (Q:Bool->Hp->Prop),Inv X pins σ H s->t σ H Q->wpAny (model X.prog X.w) X.A (isTrue e X.env (eval e X.env)) (TP X pins σ Q) X.xe s
def PW(X:Cx)(e:Expr)(t:TT):Prop:=
 ∀(whole:Sem Value) (pins:List (Addr×Obj)) (s:Shared) (σ:St) (H:Hp) (Q:Bool->Hp->Prop),Inv X pins σ H s->t σ H Q->wpAny (model X.prog X.w) X.A (isTrue e X.env whole) (TP X pins σ Q) X.xe s
theorem PW.pt{X:Cx}{e:Expr}{t:TT}(h:PW X e t):PT X e t:=h _
def PA(X:Cx)(es:List Expr)(t:TA):Prop:=
 ∀(pos:Pos) (pins:List (Addr×Obj)) (s:Shared) (σ:St) (H:Hp) (Q:List V->Hp->Prop),Inv X pins σ H s->t σ H Q->wpAny (model X.prog X.w) X.A (spliced (backTo pos (starEach es X.env))) (AP X pins σ Q) X.xe s
def PS(X:Cx)(st:Stmt)(t:TS):Prop:=
 ∀(pins:List (Addr×Obj)) (s:Shared) (σ:St) (H:Hp) (D:N8),Inv X pins σ H s->t D σ H->wpAny (model X.prog X.w) X.A (exec st X.env) (SP X pins D) X.xe s
def PSs(X:Cx)(st:List Stmt)(t:TS):Prop:=
 ∀(pins:List (Addr×Obj)) (s:Shared) (σ:St) (H:Hp) (D:N8),Inv X pins σ H s->t D σ H->wpAny (model X.prog X.w) X.A (execs st X.env) (SP X pins D) X.xe s
theorem thn{α:Type}{t:Sem α}{Q Q':α->Shared->Prop}{M:Model}{A:Around}{E:Value->Shared->Prop}{s:Shared}(h:wpAny M A t Q E s)(hQ:∀a s,Q a s->Q' a s):wpAny M A t Q' E s:=wpAny_mono h hQ λ_ _ x=>x
section
variable{X:Cx}
theorem bin{a b:Expr}{ta tb:TE}(ha:PE X a ta)(hb:PE X b tb){pins:List (Addr×Obj)}{s:Shared}{σ:St}{H:Hp}{R:V->V->Hp->Prop}(I:Inv X pins σ H s)(h:ta σ H λx H1=>tb σ H1 λy H2=>R x y H2)
  {α:Type}{Q:α->Shared->Prop}{f:Value->Value->Sem α}
  (hf:∀v u s2 x y H2,Inv X pins σ H2 s2->RelV x v->RelV y u->R x y H2->wpAny (model X.prog X.w) X.A (f v u) Q X.xe s2):
  wpAny (model X.prog X.w) X.A (eval a X.env) (λv s₁=>wpAny (model X.prog X.w) X.A (eval b X.env) (λu s₂=>wpAny (model X.prog X.w) X.A (f v u) Q X.xe s₂) X.xe s₁) X.xe s:=by
 refine thn (ha pins s σ H _ I h) λv s1 ⟨x,H1,I1,r1,q1⟩=>?_;refine thn (hb pins s1 σ H1 _ I1 q1) λu s2 ⟨y,H2,I2,r2,q2⟩=>?_;exact hf v u s2 x y H2 I2 r1 r2 q2
noncomputable def qHk(i:Nat):TE:=λσ H Q=>∃v,σ[i]?=some (some v)/\Q v H
noncomputable def tC(v:V):TE:=λ_ H Q=>Q v H
theorem pe_var{i:Nat}{x:Str}{pos:Pos}(hN:X.N[i]?=some x)(hv:Vis X.env.scope x)(hd:(x==("__debug__":Str))=false:=by decide)(hcd:(x==("__classdict__":Str))=false:=by decide):PE X (.Name x pos) (qHk i):=by
 intro pins s σ H Q I h;obtain⟨v,e,h⟩:=h;obtain⟨m,hn,hl⟩:=I.loc;obtain⟨u,r,l⟩:=hl i x v hN e hv;have fin:EP X pins σ Q u s:=⟨v,H,I,r,h⟩
 rcases l with⟨hk,hm⟩|⟨hk,c,hc,hcell⟩
 ·exact wpAny_Name (wpAny_loadName_local I.ok.kind hk hn hm fin) hd
 ·rcases hk with hk|hk
  ·exact wpAny_Name (wpAny_loadName_cell I.ok.kind hk hc hcell fin) hd
  ·exact wpAny_Name (wpAny_loadName_free I.ok.kind hk hc hcell fin hcd) hd
theorem pe_int {i j pos}:PE X (.Constant (.int i) j pos) (tC (.int i)):=λ_ _ _ H _ I h=>wpAny_Constant_int ⟨.int i,H,I.tok _,⟨_,rfl⟩,h⟩
theorem pe_bl {b j pos}:PE X (.Constant (.bool b) j pos) (tC (.bl b)):=λ_ _ _ H _ I h=>Constant_bool ⟨.bl b,H,I,rfl,h⟩
theorem pe_non {j pos}:PE X (.Constant .none j pos) (tC .non):=λ_ _ _ H _ I h=>Constant_none ⟨.non,H,I,rfl,h⟩
theorem pe_str {x j pos}:PE X (.Constant (.str x) j pos) (tC (.str x)):=λ_ _ _ H _ I h=>Calls.Constant_str ⟨.str x,H,I.tok _,⟨_,rfl⟩,h⟩
def Gl(X:Cx)(x:Str):Prop:=X.env.kindOf x=some .globalImplicit
theorem A4{E:Value->Shared->Prop}{pins:List (Addr×Obj)}{s:Shared}{σ:St}{H:Hp}{x:Str}{u:Value}{pos:Pos}{Q:Value->Shared->Prop}(I:Inv X pins σ H s)(hg:Gl X x)(hm:X.mg x=some u)(h:Q u s)
  (hd:(x==("__debug__":Str))=false:=by decide):wpAny (model X.prog X.w) X.A (eval (.Name x pos) X.env) Q E s:=
 Calls.Name_function_global I.ok.kind hg (Calls.loadGlobal_global (by rw[I.ok.glob];exact I.mod.glob.keeps I.bk) hm h) hd
theorem ld_blt{E:Value->Shared->Prop}{pins:List (Addr×Obj)}{s:Shared}{σ:St}{H:Hp}{x:Str}{u:Value}{pos:Pos}{Q:Value->Shared->Prop}(I:Inv X pins σ H s)(hg:Gl X x)(hm:X.mg x=none)(hv:bootBuiltins x=some u)(h:Q u s)
  (hn:x≠"__name__":=by decide) (hd:(x==("__debug__":Str))=false:=by decide):wpAny (model X.prog X.w) X.A (eval (.Name x pos) X.env) Q E s:=by
 obtain⟨mb,h1,h2⟩:=I.mod.blt;exact Calls.Name_function_global I.ok.kind hg (Calls.loadGlobal_builtin (by rw[I.ok.glob];exact I.mod.glob.keeps I.bk) hm (by rw[I.ok.blt];exact h1.keeps I.bk) ((h2 x hn).trans hv) h) hd
theorem pe_glob{x:Str}{v:V}{u:Value}{pos:Pos}(hg:Gl X x)(hm:X.mg x=some u)(r:RelV v u)(hd:(x==("__debug__":Str))=false:=by decide):PE X (.Name x pos) (tC v):=
 λ_ _ _ H _ I h=>A4 I hg hm ⟨v,H,I,r,h⟩ hd
theorem pe_bltn{x:Str}{v:V}{u:Value}{pos:Pos}(hg:Gl X x)(hm:X.mg x=none)(hv:bootBuiltins x=some u)(r:RelV v u)(hn:x≠"__name__":=by decide)(hd:(x==("__debug__":Str))=false:=by decide):PE X (.Name x pos) (tC v):=
 λ_ _ _ H _ I h=>ld_blt I hg hm hv ⟨v,H,I,r,h⟩ hn hd
variable{a b:Expr}{ta tb:TE}{pos:Pos}
def PC(X:Cx)(op:CmpOp)(a b:Expr)(t:TE):Prop:=
 ∀(pins:List (Addr×Obj)) (s:Shared) (σ:St) (H:Hp) (Q:VK),Inv X pins σ H s->t σ H Q ->
  wpAny (model X.prog X.w) X.A (eval a X.env) (λv s₁=>wpAny (model X.prog X.w) X.A (eval b X.env) (λu s₂=>wpAny (model X.prog X.w) X.A (compareOp op v u) (EP X pins σ Q) X.xe s₂) X.xe s₁) X.xe s
noncomputable def tB(t:TE):TT:=λσ H Q=>t σ H λx H1=>∃c,x=.bl c/\Q c H1
theorem qCt{op:CmpOp}{t:TE}(h:PC X op a b t)(h1:behindInMarks op b=false:=by first|exact nobehind _ (by decide) (by decide)|rfl):PE X (.Compare a [op] [b] pos) t:=λpins s σ H Q I hw=>wpAny_Compare1 (h pins s σ H Q I hw) h1
theorem pt_val{e:Expr}{t:TE}(h:PE X e t)(he:∀whole,isTrue e X.env whole=(do let v <- whole;standAt e.pos;holding [v] (truthy v)):=by intro _;rfl):PT X e (tB t):=by
 intro pins s σ H Q I hw;refine isTrue_plain (thn (h pins s σ H _ I hw) λv s1 ⟨x,H1,I1,r1,q1⟩=>?_) (he _);obtain⟨d,rfl,q⟩:=q1;cases r1;exact uL ⟨H1,I1,q⟩
variable{tA tB':TT}{rest:List Expr}
noncomputable def tAnd(t u:TT):TT:=λσ H Q=>t σ H λc H1=>if c=true then u σ H1 Q else Q false H1
noncomputable def tOr(t u:TT):TT:=λσ H Q=>t σ H λc H1=>if c=true then Q true H1 else u σ H1 Q
noncomputable def qHA(t:TT):TT:=λσ H Q=>t σ H λc H1=>Q (!c) H1
theorem pw_and1(ha:PT X a tA):PW X (.BoolOp .And [a] pos) tA:=by
 intro wh pins s σ H Q I h;refine isTrue_and (thn (ha pins s σ H Q I h) λc s1 e=>?_);cases c with
 |true=>exact isTrue_and_nil e
 |false=>exact e
theorem pw_or1(ha:PT X a tA):PW X (.BoolOp .Or [a] pos) tA:=by
 intro wh pins s σ H Q I h;refine isTrue_or (thn (ha pins s σ H Q I h) λc s1 e=>?_);cases c with
 |false=>exact isTrue_or_nil e
 |true=>exact e
theorem pw_and(ha:PT X a tA)(hb:PW X (.BoolOp .And (b::rest) pos) tB'):PW X (.BoolOp .And (a::b::rest) pos) (tAnd tA tB'):=by
 intro wh pins s σ H Q I h;refine isTrue_and (thn (ha pins s σ H _ I h) λc s1 ⟨H1,I1,q1⟩=>?_);cases c with
 |true=>exact hb wh pins s1 σ H1 Q I1 q1
 |false=>exact⟨H1,I1,q1⟩
theorem pw_or(ha:PT X a tA)(hb:PW X (.BoolOp .Or (b::rest) pos) tB'):PW X (.BoolOp .Or (a::b::rest) pos) (tOr tA tB'):=by
 intro wh pins s σ H Q I h;refine isTrue_or (thn (ha pins s σ H _ I h) λc s1 ⟨H1,I1,q1⟩=>?_);cases c with
 |true=>exact⟨H1,I1,q1⟩
 |false=>exact hb wh pins s1 σ H1 Q I1 q1
theorem pt_not(ha:PT X a tA):PT X (.UnaryOp .Not a pos) (qHA tA):=by
 intro pins s σ H Q I h;exact isTrue_not (ha pins s σ H (λc H1=>Q (!c) H1) I h)
noncomputable def tAndV(ta tb:TE):TE:=λσ H Q=>ta σ H λx H1=>∃c,x=.bl c/\if c=true then tb σ H1 Q else Q (.bl false) H1
noncomputable def tOrV(ta tb:TE):TE:=λσ H Q=>ta σ H λx H1=>∃c,x=.bl c/\if c=true then Q (.bl true) H1 else tb σ H1 Q
noncomputable def qFK(ta:TE):TE:=λσ H Q=>ta σ H λx H1=>∃c,x=.bl c/\Q (.bl (!c)) H1
theorem pe_one {op}{t:TE}(h:PE X a t):PE X (.BoolOp op [a] pos) t:=λpins s σ H Q I hw=>BoolOp_one (h pins s σ H Q I hw)
theorem pe_and(ha:PE X a ta)(hb:PE X (.BoolOp .And (b::rest) pos) tb):PE X (.BoolOp .And (a::b::rest) pos) (tAndV ta tb):=by
 intro pins s σ H Q I h;refine BoolOp_and (thn (ha pins s σ H _ I h) λv s1 ⟨x,H1,I1,r1,q1⟩=>?_);obtain⟨c,rfl,q1⟩:=q1;cases r1;refine uL ?_;cases c with
 |true=>exact hb pins s1 σ H1 Q I1 q1
 |false=>exact⟨.bl false,H1,I1,rfl,q1⟩
theorem pe_or(ha:PE X a ta)(hb:PE X (.BoolOp .Or (b::rest) pos) tb):PE X (.BoolOp .Or (a::b::rest) pos) (tOrV ta tb):=by
 intro pins s σ H Q I h;refine BoolOp_or (thn (ha pins s σ H _ I h) λv s1 ⟨x,H1,I1,r1,q1⟩=>?_);obtain⟨c,rfl,q1⟩:=q1;cases r1;refine uL ?_;cases c with
 |false=>exact hb pins s1 σ H1 Q I1 q1
 |true=>exact⟨.bl true,H1,I1,rfl,q1⟩
theorem pe_not(ha:PE X a ta):PE X (.UnaryOp .Not a pos) (qFK ta):=by
 intro pins s σ H Q I h;refine UnaryOp_ (thn (ha pins s σ H _ I h) λv s1 ⟨x,H1,I1,r1,q1⟩=>?_);obtain⟨c,rfl,q1⟩:=q1;cases r1;exact not_of (uL ⟨.bl (!c),H1,I1,rfl,q1⟩)
noncomputable def tIf(t:TT)(ta tb:TE):TE:=λσ H Q=>t σ H λc H1=>if c=true then ta σ H1 Q else tb σ H1 Q
theorem pe_ifExp{c:Expr}(hc:PT X c tA)(ha:PE X a ta)(hb:PE X b tb):PE X (.IfExp c a b pos) (tIf tA ta tb):=by
 intro pins s σ H Q I h;refine wpAny_IfExp (thn (hc pins s σ H _ I h) λd s1 ⟨H1,I1,q1⟩=>?_);cases d with
 |true=>exact ha pins s1 σ H1 Q I1 q1
 |false=>exact hb pins s1 σ H1 Q I1 q1
end
def SqL(K:PySem.W.Frag)(H:Hp)(a:Addr)(xs:List V):Prop:=
 Rd H a (.lst xs)\/
  ∃(o:Obj) (its:Array Value) (n:Nat),K.lookup a=some o/\o.cls=.type "list"/\o.dict=none/\o.data=.seq its n/\its.size<=sizeLine/\Vals xs its.toList
def SqT(K:PySem.W.Frag)(H:Hp)(a:Addr)(xs:List V):Prop:=
 Rd H a (.tup xs)\/
  ∃(o:Obj) (its:Array Value) (n:Nat),K.lookup a=some o/\o.cls=.type "tuple"/\o.data=.seq its n/\its.size<=sizeLine/\Vals xs its.toList
noncomputable def qHd:Value->Option V
 | .none=>some .non
 | .bool b=>some (.bl b)
 | .int i _=>some (.int i)
 | .str x _=>some (.str x)
 | .bytes b _=>some (.byt b)
 | .float b _=>some (.flt b)
 | .ref a=>some (.ref a)
 | .type n=>some (.ty n)
 |_=>none
theorem RelV.abs{x:V}{u:Value}(r:RelV x u):qHd u=some x:=by
 cases x with
 |non=>cases r;rfl
 |bl _=>cases r;rfl
 |int _=>obtain⟨t,rfl⟩:=r;rfl
 |str _=>obtain⟨t,rfl⟩:=r;rfl
 |byt _=>obtain⟨t,rfl⟩:=r;rfl
 |flt _=>obtain⟨t,rfl⟩:=r;rfl
 |ref _=>cases r;rfl
 |ty _=>cases r;rfl
theorem RelV.inj{x y:V}{u:Value}(r:RelV x u)(q:RelV y u):x=y:=Option.some.inj (r.abs.symm.trans q.abs)
theorem Vals.inj:∀{xs ys:List V}{us:List Value},Vals xs us->Vals ys us->xs=ys
 |_,_,_,.nil,.nil=>rfl
 |_,_,_,.cons r t,.cons r' t'=>by rw[r.inj r',Vals.inj t t']
section
variable{X:Cx}{pins:List (Addr×Obj)}{σ:St}{H:Hp}{s:Shared}{a:Addr}{xs ys:List V}
theorem Inv.list(I:Inv X pins σ H s)(h:SqL X.K H a xs):∃its:List Value,Vals xs its/\PlainL s.heap a its.toArray/\xs.length<=sizeLine:=by
 rcases h with h|⟨o,its,n,hk,hc,hd,hs,hz,r⟩
 ·obtain⟨z,its,n,r,e⟩:=h.ok I.hok;exact⟨its,r,⟨_,n,e,rfl,rfl,rfl⟩,z⟩
 ·refine⟨its.toList,r,⟨o,n,I.kIn a o hk,hc,hd,by simpa using hs⟩,?_⟩;have e:=r.length;simp only[vD]at e;omega
theorem Inv.tuple(I:Inv X pins σ H s)(h:SqT X.K H a xs):∃its:List Value,Vals xs its/\IsTup s.heap a its.toArray/\xs.length<=sizeLine:=by
 rcases h with h|⟨o,its,n,hk,hc,hs,hz,r⟩
 ·obtain⟨z,its,r,p⟩:=h.ok I.hok;exact⟨its,r,p,z⟩
 ·refine⟨its.toList,r,⟨o,I.kIn a o hk,hc,n,by simpa using hs⟩,?_⟩;have e:=r.length;simp only[vD]at e;omega
theorem Inv.list_inj(I:Inv X pins σ H s)(h:SqL X.K H a xs)(h':SqL X.K H a ys):xs=ys:=by
 obtain⟨its,r,⟨o,n,e,_,_,d⟩,_⟩:=I.list h;obtain⟨its',r',⟨o',n',e',_,_,d'⟩,_⟩:=I.list h';rw[e]at e';cases e';rw[d]at d';injection d' with d1 _;have:its=its':=by simpa using congrArg Array.toList d1
 subst this;exact r.inj r'
theorem Inv.tuple_inj(I:Inv X pins σ H s)(h:SqT X.K H a xs)(h':SqT X.K H a ys):xs=ys:=by
 obtain⟨its,r,⟨o,e,_,n,d⟩,_⟩:=I.tuple h;obtain⟨its',r',⟨o',e',_,n',d'⟩,_⟩:=I.tuple h';rw[e]at e';cases e';rw[d]at d';injection d' with d1 _;have:its=its':=by simpa using congrArg Array.toList d1
 subst this;exact r.inj r'
end
noncomputable abbrev Cx.wish(X:Cx)(E:Value->Shared->Prop):Cx:={ X with xe:=E }
noncomputable abbrev Cx.nox(X:Cx):Cx:=X.wish λ_ _=>False
theorem Cx.Ok.wish{X:Cx}(ok:X.Ok)(E:Value->Shared->Prop):(X.wish E).Ok:=
 ⟨ok.mod,ok.kind,ok.glob,ok.blt,ok.above,ok.inj,ok.has,ok.cab,ok.hd,ok.frames,ok.stk,ok.exf,ok.bs,ok.bsz,ok.noex,ok.exfs,ok.funs,ok.frf⟩
theorem Cx.Ok.unwish{X:Cx}{E:Value->Shared->Prop}(ok:(X.wish E).Ok):X.Ok:=
 ⟨ok.mod,ok.kind,ok.glob,ok.blt,ok.above,ok.inj,ok.has,ok.cab,ok.hd,ok.frames,ok.stk,ok.exf,ok.bs,ok.bsz,ok.noex,ok.exfs,ok.funs,ok.frf⟩
section
variable{X:Cx}{pins:List (Addr×Obj)}{σ:St}{H:Hp}{s:Shared}{E:Value->Shared->Prop}
theorem Inv.wish(I:Inv X pins σ H s)(E:Value->Shared->Prop):Inv (X.wish E) pins σ H s:=⟨I.ok.wish E,I.os,I.bare,I.base,I.loc,I.cell,I.free,I.freeC,I.pin,I.hok,I.len⟩
theorem Inv.unwish(I:Inv (X.wish E) pins σ H s):Inv X pins σ H s:=⟨I.ok.unwish,I.os,I.bare,I.base,I.loc,I.cell,I.free,I.freeC,I.pin,I.hok,I.len⟩
theorem SP.unwish{D:N8}{f:Flow}{s':Shared}(h:SP (X.wish E) pins D f s'):SP X pins D f s':=by
 cases f with
 |next=>obtain⟨σ',H',I,q⟩:=h;exact⟨σ',H',I.unwish,q⟩
 |brk=>obtain⟨σ',H',I,q⟩:=h;exact⟨σ',H',I.unwish,q⟩
 |cont=>obtain⟨σ',H',I,q⟩:=h;exact⟨σ',H',I.unwish,q⟩
 |ret u=>obtain⟨v,σ',H',I,r,q⟩:=h;exact⟨v,σ',H',I.unwish,r,q⟩
theorem PSs.nox{st:List Stmt}{t:TS}(h:PSs X.nox st t):PSs X st t:=λpins s σ H D I hw=>
 wpAny_mono (h pins s σ H D (I.wish _) hw) (λ_ _ q=>q.unwish) λ_ _ z=>False.elim z
end
section
variable{X:Cx}{st:Stmt}{rest:List Stmt}{t u:TS}{e:Expr}{te:TE}{pos:Pos}
noncomputable def qEx:TS:=λD σ H=>D.nx σ H
noncomputable def qHz(t u:TS):TS:=λD σ H=>t { D with nx:=u D } σ H
theorem pss_nil:PSs X [] qEx:=λ_ _ σ H _ I h=>wpAny_execs_nil ⟨σ,H,I,h⟩
theorem pss_cons(h1:PS X st t)(h2:PSs X rest u):PSs X (st::rest) (qHz t u):=by
 intro pins s σ H D I h;refine wpAny_execs_cons (thn (h1 pins s σ H { D with nx:=u D } I h) λf s1 q=>?_);cases f with
 |next=>
  obtain⟨σ',H',I',q⟩:=q;exact h2 pins s1 σ' H' D I' q
 |ret v=>exact q
 |brk=>exact q
 |cont=>exact q
theorem Inv.quiet{pins:List (Addr×Obj)}{σ:St}{H:Hp}{s:Shared}(I:Inv X pins σ H s):interactive X.env=false:=by simp[interactive,I.ok.kind]
noncomputable def qFx(te:TE):TS:=λD σ H=>te σ H λ_ H1=>D.nx σ H1
theorem ps_expr(he:PE X e te)(hs:swapsWith e none pos.line X.env=pure false:=by rfl):PS X (.Expr e pos) (qFx te):=by
 intro pins s σ H D I h;exact wpAny_Expr_any (thn (he pins s σ H _ I h) λv s1 ⟨x,H1,I1,r1,q1⟩=>⟨σ,H1,I1,q1⟩) I.quiet hs
noncomputable def qHt(te:TE):TS:=λD σ H=>te σ H D.rt
theorem ps_ret(he:PE X e te):PS X (.Return (some e) pos) (qHt te):=by
 intro pins s σ H D I h;exact wpAny_Return_some (thn (he pins s σ H _ I h) λv s1 ⟨x,H1,I1,r1,q1⟩=>⟨x,σ,H1,I1,r1,q1⟩)
noncomputable def qH5(c:TT)(t u:TS):TS:=λD σ H=>c σ H λb H1=>if b=true then t D σ H1 else u D σ H1
theorem ps_if{c:Expr}{a b:List Stmt}{tc:TT}(hc:PT X c tc)(ha:PSs X a t)(hb:PSs X b u):PS X (.If c a b pos) (qH5 tc t u):=by
 intro pins s σ H D I h;refine wpAny_If (thn (hc pins s σ H _ I h) λd s1 ⟨H1,I1,q1⟩=>?_);cases d with
 |true=>exact ha pins s1 σ H1 D I1 q1
 |false=>exact hb pins s1 σ H1 D I1 q1
end
noncomputable abbrev TG:=V->St->Hp->(St->Hp->Prop)->Prop
noncomputable abbrev TGs:=List V->St->Hp->(St->Hp->Prop)->Prop
def PG(X:Cx)(target:Expr)(t:TG):Prop:=
 ∀(pins:List (Addr×Obj)) (s:Shared) (σ:St) (H:Hp) (v:V) (u:Value) (Q:St->Hp->Prop),Inv X pins σ H s->RelV v u->t v σ H Q ->
  wpAny (model X.prog X.w) X.A (assign target X.env u) (λ_ s'=>∃σ' H',Inv X pins σ' H' s'/\Q σ' H') X.xe s
def PGs(X:Cx)(ts:List Expr)(t:TGs):Prop:=
 ∀(pins:List (Addr×Obj)) (s:Shared) (σ:St) (H:Hp) (vs:List V) (us:List Value) (Q:St->Hp->Prop),Inv X pins σ H s->Vals vs us->t vs σ H Q ->
  wpAny (model X.prog X.w) X.A (assignInOrder ((assignEach ts X.env).map (·.2)) us) (λ_ s'=>∃σ' H',Inv X pins σ' H' s'/\Q σ' H') X.xe s
noncomputable abbrev TSet:=V->V->V->Hp->(Hp->Prop)->Prop
def PSet(X:Cx)(t:TSet):Prop:=
 ∀(pins:List (Addr×Obj)) (s:Shared) (σ:St) (H:Hp) (o i v:V) (ov iv u:Value) (Q:Hp->Prop),Inv X pins σ H s->RelV o ov->RelV i iv->RelV v u->t o i v H Q ->
  wpAny (model X.prog X.w) X.A (setItem ov iv u) (λ_ s'=>∃H',Inv X pins σ H' s'/\Q H') X.xe s
section
variable{X:Cx}{pos:Pos}
noncomputable def qCn(i:Nat):TG:=λv σ H Q=>Q (σ.set i (some v)) H
theorem pg_name{i:Nat}{x:Str}(hN:X.N.Nodup)(hi:X.N[i]?=some x)(hx:Loc X.env.scope x)(hf:X.fn x=true\/X.env.scope.names.lookup x=some .local:=by first|exact .inl rfl|exact .inr rfl|assumption):PG X (.Name x pos) (qCn i):=by
 intro pins s σ H v u Q I r h;exact wpAny_assign_Name (je I hN hi hx r (λs' I'=>⟨_,H,I',h⟩) hf)
noncomputable def qHS:TGs:=λvs σ H Q=>vs=[]/\Q σ H
noncomputable def qFh(t:TG)(u:TGs):TGs:=λvs σ H Q=>∃v r,vs=v::r/\t v σ H λσ' H'=>u r σ' H' Q
theorem pgs_nil:PGs X [] qHS:=by
 intro pins s σ H vs us Q I r h;obtain⟨e,h⟩:=h;subst e;cases r;exact assignInOrder_nil ⟨σ,H,I,h⟩
theorem pgs_cons{e:Expr}{es:List Expr}{t:TG}{u:TGs}(h1:PG X e t)(h2:PGs X es u)
  (hs:(assignEach (e::es) X.env).map (·.2)=assign e X.env::(assignEach es X.env).map (·.2):=by rfl):PGs X (e::es) (qFh t u):=by
 intro pins s σ H vs us Q I r h;obtain⟨v,vr,e1,h⟩:=h;subst e1;cases r with
 |cons r rr=>
  rw[hs];refine assignInOrder_cons (thn (h1 pins s σ H _ _ _ I r h) λ_ s1 ⟨σ1,H1,I1,q1⟩=>?_);exact h2 pins s1 σ1 H1 _ _ Q I1 rr q1
noncomputable def qHq(K:PySem.W.Frag)(n:Nat)(t:TGs):TG:=λv σ H Q=>∃a xs,v=.ref a/\SqT K H a xs/\xs.length=n/\t xs σ H Q
theorem pg_tup{es:List Expr}{k:Nat}{t:TGs}{n:Nat}(hc:X.calm=true)(h:PGs X es t)
  (hn:(assignEach es X.env).length=n:=by rfl) (hst:(assignEach es X.env).findIdx? (·.1)=none:=by rfl):PG X (.Tuple es k pos) (qHq X.K n t):=by
 intro pins s σ H v u Q I r hw;obtain⟨a,xs,e1,hq,hl,hw⟩:=hw;subst e1;cases r;obtain⟨its,rv,ht,hz⟩:=I.tuple hq;refine assign_Tuple_tuple (I.ok.hd hc) ht (by simp[hn,<-hl,rv.length]) hst λh' hx=>?_;have I1:Inv X pins σ H { s with heap:=h' }:=I.kept (t':=s.toks) λb o e=>hx b o (wj (Heap.lt_size e)) e;exact h pins _ σ H xs _ Q I1 (by simpa using rv) hw
noncomputable def qHR(to ti:TE)(t:TSet):TG:=λv σ H Q=>to σ H λo H1=>ti σ H1 λi H2=>t o i v H2 λH3=>Q σ H3
theorem pg_sub{o i:Expr}{to ti:TE}{t:TSet}(ho:PE X o to)(hi:PE X i ti)(hs:PSet X t)
  (ha:∀v,assign (.Subscript o i pos) X.env v=(do
   let ov <- holding [v] (eval o X.env)
   let iv <- holding [v,ov] (eval i X.env)
   standAt pos
   holding [v,ov,iv] (setItem ov iv v)
   release [v,ov,iv] []):=by intro _;rfl):PG X (.Subscript o i pos) (qHR to ti t):=by
 intro pins s σ H v u Q I r h;rw[ha];refine uF (wpAny_holding (thn (ho pins s σ H _ I h) λov s1 ⟨x,H1,I1,r1,q1⟩=>?_));refine uF (wpAny_holding (thn (hi pins s1 σ H1 _ I1 q1) λiv s2 ⟨y,H2,I2,r2,q2⟩=>?_));refine uF (wpAny_standAt (uF (wpAny_holding (thn (hs pins s2 σ H2 x y v ov iv u _ I2 r1 r2 r q2) λ_ s3 ⟨H3,I3,q3⟩=>?_))));exact wpAny_release ⟨σ,H3,I3,q3⟩
noncomputable def tAsg(te:TE)(g:TG):TS:=λD σ H=>te σ H λx H1=>g x σ H1 D.nx
theorem ps_asg{tg e:Expr}{te:TE}{g:TG}(he:PE X e te)(hg:PG X tg g)(hs:swapsWithSole [tg] e pos.line X.env=pure false:=by rfl)(hw:swappedStores [tg] e X.env=pure none:=by rfl)
  (h1:(assignEach [tg] X.env).map (·.2)=[assign tg X.env]:=by rfl):PS X (.Assign [tg] e pos) (tAsg te g):=by
 intro pins s σ H D I h;refine wpAny_Assign_stores (thn (he pins s σ H _ I h) λv s1 ⟨x,H1,I1,r1,q1⟩=>?_) hs hw;rw[h1];exact thn (hg pins s1 σ H1 x v _ I1 r1 q1) λ_ s2 q=>q
end
set_option genInjectivity false in structure It where
 go:Nat->Hp->Prop
 yld:Nat->Hp->V->Hp->Prop
 stop:Nat->Hp->Prop
def QJ(X:Cx)(pins:List (Addr×Obj))(H:Hp)(b:Addr):Prop:=
 H b=none/\b≠X.env.locals/\b∉X.fs/\(b∈X.ex\/X.s₀.heap.objs.size<=b)/\(∀x c,X.env.cells.lookup x=some c->c≠b)/\∀p∈X.pn++pins,p.1≠b
theorem Inv.fpOk{X:Cx}{pins:List (Addr×Obj)}{σ:St}{H H':Hp}{s:Shared}{b:Addr}(I:Inv X pins σ H s)(hb:s.heap.objs.size<=b)(hn:H' b=none):QJ X pins H' b:=by
 refine⟨hn,vR (wG I.lt hb),I.nofs hb,.inr (wS I.sz hb),λx c e z=>?_,λp hp z=>?_⟩
 ·obtain⟨v,q⟩:=I.cell x c e;exact absurd (wG q.lt (by rw[z];exact hb)) (wp _)
 ·exact absurd (wG (Heap.lt_size (I.pin p hp).1) (by rw[z];exact hb)) (wp _)
structure ZL(P:Program)(w:World)(K:PySem.W.Frag)(tg:Expr)(J:It)(fp:List Addr)(it:Addr)(tn:Nat->Heap->Prop):Prop where
 mem:it∈fp
 obj:∀i h,tn i h->∀b∈fp,∃o,h.get? b=some o/\∀v,o.data≠.cell v
 keep:∀i h h',tn i h->(∀b∈fp,∀o,h.get? b=some o->h'.get? b=some o)->tn i h'
 item:∀(X:Cx),X.prog=P->X.w=w->X.K=K->X.calm=true->∀(i:Nat) (pins:List (Addr×Obj)) (s:Shared) (σ:St) (H:Hp) (E:Value->Shared->Prop),Inv X pins σ H s->(∀b∈fp,QJ X pins H b)->tn i s.heap->J.go i H ->
  wpAny (model P w) X.A (pyNext (.ref it)) (λr s1=>∃u,r=some u/\
   wpAny (model P w) X.A (letOwnedTupleGo tg (.ref it) u) (λ_ s2=>∃x H',Inv X pins σ H' s2/\RelV x u/\J.yld i H x H'/\tn (i+1) s2.heap/\∀b∈fp,H' b=none) E s1) E s
 done:∀(X:Cx),X.prog=P->X.w=w->X.K=K->X.calm=true->∀(i:Nat) (pins:List (Addr×Obj)) (s:Shared) (σ:St) (H:Hp) (E:Value->Shared->Prop),Inv X pins σ H s->(∀b∈fp,QJ X pins H b)->tn i s.heap->J.stop i H ->
  wpAny (model P w) X.A (pyNext (.ref it)) (λr s1=>r=none/\Inv X pins σ H s1) E s
 self:∀(A:Around) (i:Nat) (s:Shared) (Q:Value->Shared->Prop) (E:Value->Shared->Prop),tn i s.heap->Q (.ref it) s->wpAny (model P w) A (pyIter (.ref it)) Q E s
noncomputable abbrev TI:=St->Hp->(It->Hp->Prop)->Prop
def PIE(X:Cx)(pins:List (Addr×Obj))(σ:St)(tg:Expr)(R:It->Hp->Prop)(itv:Value)(s2:Shared):Prop:=
 ∃(it:Addr) (fp:List Addr) (tn:Nat->Heap->Prop) (J:It) (H':Hp),itv=.ref it/\Inv X pins σ H' s2/\ZL X.prog X.w X.K tg J fp it tn/\tn 0 s2.heap/\(∀b∈fp,QJ X pins H' b)/\R J H'
def _P(X:Cx)(tg iter:Expr)(wi:TI):Prop:=
 ∀(pins:List (Addr×Obj)) (s:Shared) (σ:St) (H:Hp) (R:It->Hp->Prop),Inv X pins σ H s->wi σ H R ->
  wpAny (model X.prog X.w) X.A (eval iter X.env) (λv s1=>wpAny (model X.prog X.w) X.A (pyIter v) (PIE X pins σ tg R) X.xe s1) X.xe s
theorem qBz{M:Model}{A:Around}{E:Value->Shared->Prop}{s:Shared}{tg:Expr}{it:Addr}{u:Value}{o:Obj}{n:String}{vs:Array Value}{Q:Unit->Shared->Prop}(ho:s.heap.get? it=some o)(hc:o.cls=.type n)(hd:o.data=.fields vs)
  (hn:["enumerate","zip","dict_itemiterator","dict_reverseitemiterator","odict_iterator","itertools.zip_longest","itertools.pairwise"].contains n=false) (hQ:Q () s):wpAny M A (letOwnedTupleGo tg (.ref it) u) Q E s:=by
 unfold letOwnedTupleGo;cases tg<;>first
  |exact uG hQ
  | (cases u<;>first
    |exact uG hQ
    | (refine uF (wpAny_load ho ?_)
       rw[hc,hd];show wpAny M A (if (["enumerate","zip","dict_itemiterator","dict_reverseitemiterator","odict_iterator","itertools.zip_longest","itertools.pairwise"].contains n&&vs[0]?==some (rawInt _))=true then _ else _) Q E s;rw[if_neg (by intro h;rw[hn,Bool.false_and]at h;cases h)];exact uG hQ))
noncomputable def Itl(K:PySem.W.Frag)(a:Addr):It:=
 ⟨λi H=>∃xs x,SqL K H a xs/\xs[i]?=some x,λi H x H'=>H'=H/\∀xs,SqL K H a xs->xs[i]?=some x,λi H=>∃xs,SqL K H a xs/\xs.length<=i⟩
noncomputable def Itt(K:PySem.W.Frag)(a:Addr):It:=
 ⟨λi H=>∃xs x,SqT K H a xs/\xs[i]?=some x,λi H x H'=>H'=H/\∀xs,SqT K H a xs->xs[i]?=some x,λi H=>∃xs,SqT K H a xs/\xs.length<=i⟩
noncomputable def Itr(lo:Int)(n:Nat):It:=⟨λi _=>i<n,λi H x H'=>H'=H/\x=.int (lo+i),λi _=>n<=i⟩
theorem turn_list{P:Program}{w:World}{K:PySem.W.Frag}{tg:Expr}(a it:Addr):ZL P w K tg (Itl K a) [it] it (λi h=>h.IsListIter it a i) where
 mem:=by simp
 obj:=λi h st b hb=>by
  have e:b=it:=by simpa using hb
  subst e;obtain⟨o,e,c,d⟩:=st;exact⟨o,e,λv z=>by rw[d]at z;cases z⟩
 keep:=λi h h' st k=>st.at λo e=>k it (by simp) o e
 item:=by
  intro X hP hw hK hc i pins s σ H E I hf st hg;subst hP hw hK;obtain⟨xs,x,hq,hx⟩:=hg;obtain⟨its,rv,p,hz⟩:=I.list hq;obtain⟨u,hu,ru⟩:=rv.get hx;obtain⟨f0,f1,f2,f3,f4,f5⟩:=hf it (by simp);refine wpAny_pyNext_list_item st p.isList (x:=u) (by simpa using hu) λh' st' sb=>?_;have I1:Inv X pins σ H { s with heap:=h' }:=I.turned (t':=s.toks) (λb o hb e=>(sb.2 b hb).trans e) f0 f1 f3 f4 f5;obtain⟨o,e,c,d⟩:=id st';exact⟨u,rfl,qBz (s:={ s with heap:=h' }) e c d (by decide) ⟨x,H,I1,ru,⟨rfl,λys hy=>by rw[I.list_inj hy hq];exact hx⟩,st',λb hb=>(hf b hb).1⟩⟩
 done:=by
  intro X hP hw hK hc i pins s σ H E I hf st hg;subst hP hw hK;obtain⟨xs,hq,hx⟩:=hg;obtain⟨its,rv,p,hz⟩:=I.list hq;obtain⟨f0,f1,f2,f3,f4,f5⟩:=hf it (by simp);have hl:=rv.length;exact wpAny_pyNext_list_end (I.ok.hd hc) st p.isList (by simp;omega) λh' eb=>⟨rfl,I.turned (t':=s.toks) (λb o hb e=>eb b o hb e) f0 f1 f3 f4 f5⟩
 self:=λ_ _ _ _ _ st h=>wpAny_pyIter_listiter st h
theorem turn_tuple{P:Program}{w:World}{K:PySem.W.Frag}{tg:Expr}(a it:Addr):ZL P w K tg (Itt K a) [it] it (λi h=>h.IsTupleIter it a i) where
 mem:=by simp
 obj:=λi h st b hb=>by
  have e:b=it:=by simpa using hb
  subst e;obtain⟨o,e,c,d⟩:=st;exact⟨o,e,λv z=>by rw[d]at z;cases z⟩
 keep:=λi h h' st k=>st.at λo e=>k it (by simp) o e
 item:=by
  intro X hP hw hK hc i pins s σ H E I hf st hg;subst hP hw hK;obtain⟨xs,x,hq,hx⟩:=hg;obtain⟨its,rv,p,hz⟩:=I.tuple hq;obtain⟨u,hu,ru⟩:=rv.get hx;obtain⟨f0,f1,f2,f3,f4,f5⟩:=hf it (by simp);refine wpAny_pyNext_tuple_item st (show s.heap.IsTuple a its.toArray from p) (x:=u) (by simpa using hu) λh' st' sb=>?_;have I1:Inv X pins σ H { s with heap:=h' }:=I.turned (t':=s.toks) (λb o hb e=>(sb.2 b hb).trans e) f0 f1 f3 f4 f5;obtain⟨o,e,c,d⟩:=id st';exact⟨u,rfl,qBz (s:={ s with heap:=h' }) e c d (by decide) ⟨x,H,I1,ru,⟨rfl,λys hy=>by rw[I.tuple_inj hy hq];exact hx⟩,st',λb hb=>(hf b hb).1⟩⟩
 done:=by
  intro X hP hw hK hc i pins s σ H E I hf st hg;subst hP hw hK;obtain⟨xs,hq,hx⟩:=hg;obtain⟨its,rv,p,hz⟩:=I.tuple hq;obtain⟨f0,f1,f2,f3,f4,f5⟩:=hf it (by simp);have hl:=rv.length;exact wpAny_pyNext_tuple_end (I.ok.hd hc) st (show s.heap.IsTuple a its.toArray from p) (by simp;omega) λh' eb=>⟨rfl,I.turned (t':=s.toks) (λb o hb e=>eb b o hb e) f0 f1 f3 f4 f5⟩
 self:=λ_ _ _ _ _ st h=>wpAny_pyIter_tupleiter st h
theorem N0{P:Program}{w:World}{K:PySem.W.Frag}{tg:Expr}(it:Addr)(lo:Int)(n:Nat):ZL P w K tg (Itr lo n) [it] it (λi h=>IsRangeIter h it (lo+(i:Nat)*1) ((n:Int)-(i:Nat)) 1) where
 mem:=by simp
 obj:=λi h st b hb=>by
  have e:b=it:=by simpa using hb
  subst e;exact⟨_,st,λv z=>by
   have z':Data.fields _=Data.cell v:=z;cases z'⟩
 keep:=λi h h' st k=>k it (by simp) _ st
 item:=by
  intro X hP hw hK hc i pins s σ H E I hf st hg;subst hP hw hK;obtain⟨f0,f1,f2,f3,f4,f5⟩:=hf it (by simp);have W:=Walks.range (prog:=X.prog) (w:=X.w) (I.ok.hd hc) it lo 1 n;refine W.item i s _ _ hg st λv h' tk hv st' kk=>?_;obtain⟨t,rfl⟩:=hv;have I1:Inv X pins σ H { s with heap:=h',toks:=tk }:=I.turned (λb o hb e=>kk b o (by simpa using hb) e) f0 f1 f3 f4 f5;refine⟨_,rfl,qBz (s:={ s with heap:=h',toks:=tk }) (n:="range_iterator") st' rfl rfl (by decide) ⟨.int (lo+i),H,I1,⟨t,?_⟩,⟨rfl,rfl⟩,st',λb hb=>(hf b hb).1⟩⟩;rw[Int.mul_one]
 done:=by
  intro X hP hw hK hc i pins s σ H E I hf st hg;subst hP hw hK;obtain⟨f0,f1,f2,f3,f4,f5⟩:=hf it (by simp);exact wpAny_pyNext_range_end (I.ok.hd hc) st (by have:n<=i:=hg;omega) λh' eb=>⟨rfl,I.turned (t':=s.toks) (λb o hb e=>eb b o hb e) f0 f1 f3 f4 f5⟩
 self:=λ_ _ _ _ _ st h=>wpAny_pyIter_rangeiter st h
section
variable{X:Cx}{tg:Expr}
theorem v8{pins:List (Addr×Obj)}{σ:St}{H:Hp}{s:Shared}{R:It->Hp->Prop}{E:Value->Shared->Prop}{lo hi:Int}{t u v:Tok}{tk:Nat}(I:Inv X pins σ H s)(h1:-(2 ^ 62)<=lo)(h2:lo<2 ^ 62)(h3:-(2 ^ 62)<=hi)(h4:hi<2 ^ 62)
  (q:R (Itr lo (hi-lo).toNat) H):wpAny (model X.prog X.w) X.A (pyIter (.ref s.heap.objs.size)) (PIE X pins σ tg R) E { s with heap:=s.heap.push { cls:=.type "range",data:=.fields #[.int lo t,.int hi u,.int 1 v] },toks:=tk }:=by
 refine wpAny_pyIter_range (IsRange.new ..) (small_one h1 h2 h3 h4) ?_;have I1:Inv X pins σ H { s with heap:=s.heap.push { cls:=.type "range",data:=.fields #[.int lo t,.int hi u,.int 1 v] },toks:=tk }:=I.kept λb o e=>Heap.get?_push_of_some _ e;refine⟨(s.heap.push { cls:=.type "range",data:=.fields #[.int lo t,.int hi u,.int 1 v] }).objs.size,[(s.heap.push { cls:=.type "range",data:=.fields #[.int lo t,.int hi u,.int 1 v] }).objs.size],_,_,H,rfl,
  I1.kept (t':=tk) λb o e=>Heap.get?_push_of_some _ e,N0 _ lo (hi-lo).toNat,?_,λb hb=>?_,q⟩
 ·have e1:lo+((0:Nat):Int)*1=lo:=by simp
  have e2:(((hi-lo).toNat:Nat):Int)-((0:Nat):Int)=Builtin.Range.rangeSize lo hi 1:=by rw[rangeSize_one];split<;>omega
  show IsRangeIter _ _ (lo+((0:Nat):Int)*1) ((((hi-lo).toNat:Nat):Int)-((0:Nat):Int)) 1;rw[e1,e2];exact Heap.get?_push_size _ rfl
 ·have e:b=(s.heap.push { cls:=.type "range",data:=.fields #[.int lo t,.int hi u,.int 1 v] }).objs.size:=by simpa using hb
  subst e;exact I1.fpOk (wM _) (I1.hok.fresh (wM _))
noncomputable def qF1(ta:TA):TI:=λσ H R=>ta σ H λvs H1=>∃j:Int,vs=[.int j]/\-(2 ^ 62)<=j/\j<2 ^ 62/\R (Itr 0 j.toNat) H1
theorem pi_range1{a:Expr}{ta:TA}{p pos:Pos}(hg:Gl X "range")(hm:X.mg "range"=none)(ha:PA X [a] ta)(hs:starEach [a] X.env=[(false,eval a X.env)]:=by rfl):_P X tg (.Call (.Name "range" p) [a] [] pos) (qF1 ta):=by
 intro pins s σ H R I h;refine Call_ (ld_blt I hg hm boot_range (PyProof.Rows.callWith_type1 (thn (ha pos pins s σ H _ I h) λus s1 ⟨vs,H1,I1,r1,q1⟩=>?_) hs rfl));obtain⟨j,e,q1,q2,q⟩:=q1;subst e;cases r1 with
 |cons r rr=>
  cases rr;obtain⟨t,rfl⟩:=r;exact call_range_1 (v8 I1 (by omega) (by omega) q1 q2 (by simpa using q))
noncomputable def qH8(wi:TI)(g:TG)(tb:TS):TS:=λD σ H=>wi σ H λJ H1=>∃W:Nat->Nat->St->Hp->Prop,(∃m,W 0 m σ H1)/\∀i m σ H,W i m σ H ->
 (J.stop i H/\D.nx σ H)\/(J.go i H/\∃N:St->Hp->Prop,(∀σ' H',N σ' H'->∃m',m'<m/\W (i+1) m' σ' H')/\∀x H',J.yld i H x H'->g x σ H' λσ2 H2=>tb { D with nx:=N,ct:=N,bk:=D.nx } σ2 H2)
noncomputable def ZV(fp:List Addr)(h:Heap):List (Addr×Obj):=fp.filterMap λb=>(h.get? b).map λo=>(b,o)
theorem zV{fp:List Addr}{h:Heap}{b:Addr}{o:Obj}(hb:b∈fp)(e:h.get? b=some o):(b,o)∈ZV fp h:=List.mem_filterMap.mpr ⟨b,hb,by rw[e];rfl⟩
theorem Y6{fp:List Addr}{h:Heap}{p:Addr×Obj}(hp:p∈ZV fp h):p.1∈fp/\h.get? p.1=some p.2:=by
 obtain⟨b,hb,e⟩:=List.mem_filterMap.mp hp;cases q:h.get? b with
 |none=>rw[q]at e;cases e
 |some o=>
  rw[q]at e;have e':(b,o)=p:=Option.some.inj e;subst e';exact⟨hb,q⟩
theorem Inv.pinned{pins:List (Addr×Obj)}{σ:St}{H:Hp}{s:Shared}{fp:List Addr}(I:Inv X pins σ H s)(hf:∀b∈fp,QJ X pins H b)(ho:∀b∈fp,∃o,s.heap.get? b=some o/\∀v,o.data≠.cell v):Inv X (pins++ZV fp s.heap) σ H s:=
 I.pins_of λp hp=>(wF.mp hp).elim (λz=>I.pin p (wQ _ z)) λz=>by
  obtain⟨hb,e⟩:=Y6 z;obtain⟨f0,f1,f2,_⟩:=hf p.1 hb;obtain⟨o,e',d⟩:=ho p.1 hb;rw[e]at e';cases e';exact⟨e,f0,f1,f2,d⟩
theorem Inv.unpinned{pins pl:List (Addr×Obj)}{σ:St}{H:Hp}{s:Shared}(I:Inv X (pins++pl) σ H s):Inv X pins σ H s:=I.pins_of λp hp=>I.pin p (wQ _ (wN _ hp))
theorem ps_for{iter:Expr}{body:List Stmt}{wi:TI}{g:TG}{tb:TS}{pos:Pos}(hp:PassesOwn (model X.prog X.w) X.A X.env X.xe)(hc:X.calm=true)(hi:_P X tg iter wi)(hg:PG X tg g)(hb:PSs X body tb)
  (hs:∀x,foldedSetIterable iter X.env x=pure x:=by intro _;rfl):PS X (.For tg iter body [] pos) (qH8 wi g tb):=by
 intro pins s σ H D I h;refine wpAny_For (thn (hi pins s σ H _ I h) λv s1 h1=>thn h1 λitv s2 h2=>?_) hs;obtain⟨it,fp,tn,J,H2,e,I2,T,st2,f2,W,⟨m0,w0⟩,l6⟩:=h2;subst e;have stat:∀{H':Hp},(∀b∈fp,H' b=none)->∀b∈fp,QJ X pins H' b:=λhn b hb=>⟨hn b hb,(f2 b hb).2⟩
 refine codeAny_forLoop_any (λn s'=>∃i σ' H',Inv X pins σ' H' s'/\tn i s'.heap/\(∀b∈fp,H' b=none)/\W i n σ' H') ?_ m0 ⟨0,σ,H2,I2,st2,λb hb=>(f2 b hb).1,w0⟩;rintro n s3 ⟨i,σ3,H3,I3,st3,fr3,w3⟩;rcases l6 i n σ3 H3 w3 with⟨stop,qn⟩|⟨go,N,hN,step⟩
 ·refine wpAny_passesOwn hp (thn (T.done X rfl rfl rfl hc i pins s3 σ3 H3 X.xe I3 (stat fr3) st3 stop) λr s4 ⟨hr,I4⟩=>?_);subst hr;exact wpAny_execs_nil ⟨σ3,H3,I4,qn⟩
 ·refine wpAny_passesOwn hp (thn (T.item X rfl rfl rfl hc i pins s3 σ3 H3 X.xe I3 (stat fr3) st3 go) λr s4 ⟨u,hr,h4⟩=>?_);subst hr;refine wpAny_passesOwn hp (thn h4 λ_ s5 ⟨x,H5,I5,r5,y5,st5,fr5⟩=>?_);have I5':=I5.pinned (stat fr5) (T.obj _ _ st5);refine wpAny_passesOwn hp (thn (hg _ s5 σ3 H5 x u _ I5' r5 (step x H5 y5)) λ_ s6 ⟨σ6,H6,I6,q6⟩=>?_);refine wpAny_passesOwn hp (thn (hb _ s6 σ6 H6 _ I6 q6) λf s7 q7=>?_);have again:∀{σ7:St}{H7:Hp},Inv X (pins++ZV fp s5.heap) σ7 H7 s7->N σ7 H7->∃m,m<n/\∃i σ' H',Inv X pins σ' H' s7/\tn i s7.heap/\(∀b∈fp,H' b=none)/\W i m σ' H':=λ{σ7 H7} I7 n7=>by
   obtain⟨m',hm,w7⟩:=hN σ7 H7 n7;refine⟨m',hm,i+1,σ7,H7,I7.unpinned,T.keep _ _ _ st5 λb hb o e=>(I7.pin (b,o) (wQ _ (wQ _ (zV hb e)))).1,λb hb=>?_,w7⟩;obtain⟨o,e,d⟩:=T.obj _ _ st5 b hb;exact(I7.pin (b,o) (wQ _ (wQ _ (zV hb e)))).2.1
  cases f with
  |next=>obtain⟨σ7,H7,I7,n7⟩:=q7;exact again I7 n7
  |cont=>obtain⟨σ7,H7,I7,n7⟩:=q7;exact again I7 n7
  |brk=>obtain⟨σ7,H7,I7,q7⟩:=q7;exact⟨σ7,H7,I7.unpinned,q7⟩
  |ret v=>obtain⟨x7,σ7,H7,I7,r7,q7⟩:=q7;exact⟨x7,σ7,H7,I7.unpinned,r7,q7⟩
end
noncomputable abbrev R2:=V->V->Hp->VK->Prop
def OpR(X:Cx)(f:Value->Value->Sem Value)(r:R2):Prop:=
 ∀(pins:List (Addr×Obj)) (s:Shared) (σ:St) (H:Hp) (x y:V) (v u:Value) (Q:VK),Inv X pins σ H s->RelV x v->RelV y u->r x y H Q ->
  wpAny (model X.prog X.w) X.A (f v u) (EP X pins σ Q) X.xe s
def UnR(X:Cx)(f:Value->Sem Value)(r:V->Hp->VK->Prop):Prop:=
 ∀(pins:List (Addr×Obj)) (s:Shared) (σ:St) (H:Hp) (x:V) (v:Value) (Q:VK),Inv X pins σ H s->RelV x v->r x H Q ->
  wpAny (model X.prog X.w) X.A (f v) (EP X pins σ Q) X.xe s
def zG(X:Cx)(f:Value)(r:List V->Hp->VK->Prop):Prop:=
 ∀(pins:List (Addr×Obj)) (s:Shared) (σ:St) (H:Hp) (xs:List V) (us:List Value) (Q:VK),Inv X pins σ H s->Vals xs us->r xs H Q ->
  wpAny (model X.prog X.w) X.A (call f us) (EP X pins σ Q) X.xe s
noncomputable def tOp(r:R2)(ta tb:TE):TE:=λσ H Q=>ta σ H λx H1=>tb σ H1 λy H2=>r x y H2 Q
noncomputable def tUn(r:V->Hp->VK->Prop)(ta:TE):TE:=λσ H Q=>ta σ H λx H1=>r x H1 Q
noncomputable def rI(C:Int->Int->Prop)(g:Int->Int->V):R2:=λx y H Q=>∃i j,x=.int i/\y=.int j/\C i j/\Q (g i j) H
noncomputable def rI0(g:Int->Int->V):R2:=λx y H Q=>∃i j,x=.int i/\y=.int j/\Q (g i j) H
def rU(g:Int->V):V->Hp->VK->Prop:=λx H Q=>∃i,x=.int i/\Q (g i) H
section
variable{X:Cx}{a b c:Expr}{ta tb tc:TE}{pos:Pos}
theorem qg(ha:PE X a ta)(hb:PE X b tb){pins:List (Addr×Obj)}{s:Shared}{σ:St}{H:Hp}{R:V->V->Hp->Prop}(I:Inv X pins σ H s)
  (h:ta σ H λx H1=>tb σ H1 λy H2=>R x y H2){Q:Value->Shared->Prop}{f:Value->Value->Sem Value}
  (hf:∀v u s2 x y H2,Inv X pins σ H2 s2->RelV x v->RelV y u->R x y H2->wpAny (model X.prog X.w) X.A (f v u) Q X.xe s2):
  wpAny (model X.prog X.w) X.A (eval a X.env) (λv s₁=>wpAny (model X.prog X.w) X.A (eval b X.env) (λu s₂=>wpAny (model X.prog X.w) X.A (f v u) Q X.xe s₂) X.xe s₁) X.xe s:=by
 refine thn (ha pins s σ H _ I h) λv s1 ⟨x,H1,I1,r1,q1⟩=>?_;refine thn (hb pins s1 σ H1 _ I1 q1) λu s2 ⟨y,H2,I2,r2,q2⟩=>?_;exact hf v u s2 x y H2 I2 r1 r2 q2
theorem pe_op{op:Operator}{r:R2}(ho:OpR X (binaryOp op) r)(ha:PE X a ta)(hb:PE X b tb):PE X (.BinOp a op b pos) (tOp r ta tb):=by
 intro pins s σ H Q I h;exact wpAny_BinOp (qg ha hb I h λv u s2 x y H2 I2 rx ry q=>ho pins s2 σ H2 x y v u Q I2 rx ry q)
theorem pe_un{op:UnaryOp}{r:V->Hp->VK->Prop}(ho:UnR X (unaryOp op) r)(ha:PE X a ta):PE X (.UnaryOp op a pos) (tUn r ta):=by
 intro pins s σ H Q I h;exact UnaryOp_ (thn (ha pins s σ H _ I h) λv s1 ⟨x,H1,I1,r1,q1⟩=>ho pins s1 σ H1 x v Q I1 r1 q1)
theorem opI{f:Value->Value->Sem Value}{C:Int->Int->Prop}{g:Int->Int->Int}
  (rule:∀(i j:Int) (t u:Tok) (s:Shared) (Q:Value->Shared->Prop) (E:Value->Shared->Prop),C i j->Q (.int (g i j) s.toks) { s with toks:=s.toks+1 }->wpAny (model X.prog X.w) X.A (f (.int i t) (.int j u)) Q E s):
  OpR X f (rI C λi j=>.int (g i j)):=by
 intro pins s σ H x y v u Q I rx ry h;obtain⟨i,j,rfl,rfl,hc,q⟩:=h;obtain⟨t,rfl⟩:=rx;obtain⟨t',rfl⟩:=ry;exact rule i j t t' s _ _ hc ⟨.int (g i j),H,I.tok _,⟨_,rfl⟩,q⟩
theorem qEn{f:Value->Value->Sem Value}{g:Int->Int->Int}
  (rule:∀(i j:Int) (t u:Tok) (s:Shared) (Q:Value->Shared->Prop) (E:Value->Shared->Prop),Q (.int (g i j) s.toks) { s with toks:=s.toks+1 }->wpAny (model X.prog X.w) X.A (f (.int i t) (.int j u)) Q E s):
  OpR X f (rI0 λi j=>.int (g i j)):=by
 intro pins s σ H x y v u Q I rx ry h;obtain⟨i,j,rfl,rfl,q⟩:=h;obtain⟨t,rfl⟩:=rx;obtain⟨t',rfl⟩:=ry;exact rule i j t t' s _ _ ⟨.int (g i j),H,I.tok _,⟨_,rfl⟩,q⟩
theorem qEi{f:Value->Value->Sem Value}{g:Int->Int->Bool}
  (rule:∀(i j:Int) (t u:Tok) (s:Shared) (Q:Value->Shared->Prop) (E:Value->Shared->Prop),Q (.bool (g i j)) s->wpAny (model X.prog X.w) X.A (f (.int i t) (.int j u)) Q E s):
  OpR X f (rI0 λi j=>.bl (g i j)):=by
 intro pins s σ H x y v u Q I rx ry h;obtain⟨i,j,rfl,rfl,q⟩:=h;obtain⟨t,rfl⟩:=rx;obtain⟨t',rfl⟩:=ry;exact rule i j t t' s _ _ ⟨.bl (g i j),H,I,rfl,q⟩
def CDiv(i j:Int):Prop:=0<j/\j<1073741824
def CPow(i j:Int):Prop:=0<=j/\j<=1000000/\i.natAbs<2 ^ 64
def CMul(i j:Int):Prop:=(-(2 ^ 64)<i/\i<2 ^ 64)\/(-(2 ^ 64)<j/\j<2 ^ 64)
theorem CMul.ok{i j:Int}(h:CMul i j):IntMulOk i j:=by
 rcases h with⟨h1,h2⟩|⟨h1,h2⟩
 ·exact .of_left (intBits_le_64 h1 h2)
 ·exact .of_right (intBits_le_64 h1 h2)
theorem two_pow_nn(k:Nat):(0:Int)<=2 ^ k:=by
 rw[two_pow_cast];exact vh _
theorem op_add:OpR X (binaryOp .Add) (rI0 λi j=>.int (i+j)):=qEn λ_ _ _ _ _ _ _ q=>add_int q
theorem op_sub:OpR X (binaryOp .Sub) (rI0 λi j=>.int (i-j)):=qEn λ_ _ _ _ _ _ _ q=>sub_int q
theorem op_mul:OpR X (binaryOp .Mult) (rI CMul λi j=>.int (i*j)):=opI λ_ _ _ _ _ _ _ hc q=>mul_int q hc.ok
theorem op_fdiv:OpR X (binaryOp .FloorDiv) (rI CDiv λi j=>.int (i / j)):=opI λi j _ _ _ _ _ hc q=>by
 have h1:(0:Int)<j:=hc.1;have h2:j<1073741824:=hc.2;exact floordiv_int (by omega) (by rw[vT i (by omega)];exact q) (.inl (PyProof.noPylong_small (by omega)))
theorem op_mod:OpR X (binaryOp .Mod) (rI (λ_ j=>0<j) λi j=>.int (i % j)):=opI λi j _ _ _ _ _ hc q=>by
 have h1:(0:Int)<j:=hc;exact mod_int' (by omega) (by rw[Int.fmod_eq_emod_of_nonneg i (by omega)];exact q)
theorem op_modN:OpR X (binaryOp .Mod) (rI (λ_ j=>j≠0) λi j=>.int (i.fmod j)):=opI λ_ _ _ _ _ _ _ hc q=>mod_int' hc q
theorem op_pow:OpR X (binaryOp .Pow) (rI CPow λi j=>.int (i ^ j.toNat)):=opI λ_ _ _ _ _ _ _ hc q=>pow_int_small hc.1 hc.2.1 hc.2.2 q
theorem op_shl:OpR X (binaryOp .LShift) (rI CPow λi j=>.int (i*2 ^ j.toNat)):=opI λ_ _ _ _ _ _ _ hc q=>lshift_int_small hc.1 hc.2.1 hc.2.2 q
theorem op_shr:OpR X (binaryOp .RShift) (rI (λ_ j=>0<=j) λi j=>.int (i / 2 ^ j.toNat)):=opI λi j _ _ _ _ _ hc q=>
 rshift_int hc (by rw[vT i (two_pow_nn _)];exact q)
theorem op_and:OpR X (binaryOp .BitAnd) (rI0 λi j=>.int (Builtin.bitAnd i j)):=qEn λ_ _ _ _ _ _ _ q=>and_int q
theorem op_xor:OpR X (binaryOp .BitXor) (rI0 λi j=>.int (Builtin.bitXor i j)):=qEn λ_ _ _ _ _ _ _ q=>xor_int q
theorem unI{f:Value->Sem Value}{g:Int->Int}
  (rule:∀(i:Int) (t:Tok) (s:Shared) (Q:Value->Shared->Prop) (E:Value->Shared->Prop),Q (.int (g i) s.toks) { s with toks:=s.toks+1 }->wpAny (model X.prog X.w) X.A (f (.int i t)) Q E s):
  UnR X f (rU λi=>.int (g i)):=by
 intro pins s σ H x v Q I rx h;obtain⟨i,rfl,q⟩:=h;obtain⟨t,rfl⟩:=rx;exact rule i t s _ _ ⟨.int (g i),H,I.tok _,⟨_,rfl⟩,q⟩
theorem un_neg:UnR X (unaryOp .USub) (rU λi=>.int (-i)):=unI λ_ _ _ _ _ q=>neg_int q
end
section
variable{X:Cx}{a b c:Expr}{ta tb tc:TE}{pos:Pos}
theorem qAp{pins:List (Addr×Obj)}{σ:St}{H:Hp}{s:Shared}{Q:VK}{k k':Bool}(I:Inv X pins σ H s)(q:Q (.bl k) H)(e:k=k'):EP X pins σ Q (.bool k') s:=by
 subst e;exact⟨.bl k,H,I,rfl,q⟩
theorem op_lt:OpR X (compareOp .Lt) (rI0 λi j=>.bl (decide (i<j))):=qEi λ_ _ _ _ _ _ _ q=>lt_int q
theorem op_le:OpR X (compareOp .LtE) (rI0 λi j=>.bl (decide (i<=j))):=qEi λ_ _ _ _ _ _ _ q=>le_int q
theorem op_gt:OpR X (compareOp .Gt) (rI0 λi j=>.bl (decide (j<i))):=qEi λ_ _ _ _ _ _ _ q=>gt_int q
theorem op_ge:OpR X (compareOp .GtE) (rI0 λi j=>.bl (decide (j<=i))):=qEi λ_ _ _ _ _ _ _ q=>ge_int q
theorem op_isN:OpR X (compareOp .Is) (λx y H Q=>y=.non/\Q (.bl (decide (x=.non))) H):=by
 intro pins s σ H x y v u Q I rx ry h;obtain⟨rfl,q⟩:=h;cases ry;refine is_none_gen (qAp I q ?_);cases x<;>first
  | (cases rx;rfl)
  | (obtain⟨t,rfl⟩:=rx;rfl)
theorem op_notN:OpR X (compareOp .IsNot) (λx y H Q=>y=.non/\Q (.bl (!decide (x=.non))) H):=by
 intro pins s σ H x y v u Q I rx ry h;obtain⟨rfl,q⟩:=h;cases ry;refine isnot_none_gen (qAp I q ?_);cases x<;>first
  | (cases rx;rfl)
  | (obtain⟨t,rfl⟩:=rx;rfl)
theorem OpR.or{f:Value->Value->Sem Value}{r r':R2}(h:OpR X f r)(h':OpR X f r'):OpR X f (λx y H Q=>r x y H Q\/r' x y H Q):=by
 intro pins s σ H x y v u Q I rx ry q;rcases q with q|q
 ·exact h pins s σ H x y v u Q I rx ry q
 ·exact h' pins s σ H x y v u Q I rx ry q
theorem pe_cmpR{op:CmpOp}{r:R2}(ho:OpR X (compareOp op) r)(ha:PE X a ta)(hb:PE X b tb)(hm:behindInMarks op b=false):PE X (.Compare a [op] [b] pos) (tOp r ta tb):=by
 intro pins s σ H Q I h;exact wpAny_Compare1 (qg ha hb I h λv u s2 x y H2 I2 rx ry q=>ho pins s2 σ H2 x y v u Q I2 rx ry q) hm
noncomputable def qDP(t:TE):TT:=λσ H Q=>t σ H λx H'=>∃k,x=.bl k/\Q k H'
theorem pt_cmpR{op:CmpOp}{r:R2}(ho:OpR X (compareOp op) r)(ha:PE X a ta)(hb:PE X b tb)(hm:behindInMarks op b=false):PT X (.Compare a [op] [b] pos) (qDP (tOp r ta tb)):=by
 intro pins s σ H Q I h;refine wpAny_isTrue_Compare1 (thn (ha pins s σ H _ I h) λv s1 ⟨x,H1,I1,r1,q1⟩=>thn (hb pins s1 σ H1 _ I1 q1) λu s2 ⟨y,H2,I2,r2,q2⟩=>
  thn (ho pins s2 σ H2 x y v u _ I2 r1 r2 q2) λc s3 ⟨z,H3,I3,r3,k,e,q3⟩=>?_) hm
 subst e;cases r3;exact uL ⟨H3,I3,q3⟩
noncomputable def tChain(r r':R2)(ta tb tc:TE):TE:=λσ H Q=>ta σ H λx H1=>tb σ H1 λy H2=>r x y H2 λz H3=>∃k,z=.bl k/\
 (if k=true then tc σ H3 λw' H4=>r' y w' H4 Q else Q (.bl false) H3)
theorem pe_chain{op op':CmpOp}{r r':R2}(ho:OpR X (compareOp op) r)(ho':OpR X (compareOp op') r')(ha:PE X a ta)(hb:PE X b tb)(hc:PE X c tc)
  (hm:lastMarks [op,op'] [b,c]=false:=by with_unfolding_all rfl):PE X (.Compare a [op,op'] [b,c] pos) (tChain r r' ta tb tc):=by
 intro pins s σ H Q I h;refine Compare_chain (thn (ha pins s σ H _ I h) λv s1 ⟨x,H1,I1,r1,q1⟩=>chain_link (thn (hb pins s1 σ H1 _ I1 q1) λu s2 ⟨y,H2,I2,r2,q2⟩=>
  thn (ho pins s2 σ H2 x y v u _ I2 r1 r2 q2) λd s3 ⟨z,H3,I3,r3,k,e,q3⟩=>?_)) hm
 subst e;cases r3;refine uL ?_;cases k with
 |false=>exact ite_ff ⟨.bl false,H3,I3,rfl,q3⟩
 |true=>exact ite_tt (chain_last (thn (hc pins s3 σ H3 _ I3 q3) λw' s4 ⟨z',H4,I4,r4,q4⟩=>ho' pins s4 σ H4 y z' u w' Q I4 r2 r4 q4))
theorem pt_chain{op op':CmpOp}{r r':R2}(ho:OpR X (compareOp op) r)(ho':OpR X (compareOp op') r')(ha:PE X a ta)(hb:PE X b tb)(hc:PE X c tc)
  (hm:lastMarks [op,op'] [b,c]=false:=by with_unfolding_all rfl):PT X (.Compare a [op,op'] [b,c] pos) (qDP (tChain r r' ta tb tc)):=by
 intro pins s σ H Q I h;refine isTrue_chain (thn (ha pins s σ H _ I h) λv s1 ⟨x,H1,I1,r1,q1⟩=>test_link (thn (hb pins s1 σ H1 _ I1 q1) λu s2 ⟨y,H2,I2,r2,q2⟩=>
  thn (ho pins s2 σ H2 x y v u _ I2 r1 r2 q2) λd s3 ⟨z,H3,I3,r3,k,e,q3⟩=>?_)) hm
 subst e;cases r3;refine uL ?_;cases k with
 |false=>
  obtain⟨k',e',q'⟩:=q3;cases e';exact ite_ff ⟨H3,I3,q'⟩
 |true=>
  refine ite_tt (test_last (thn (hc pins s3 σ H3 _ I3 q3) λw' s4 ⟨z',H4,I4,r4,q4⟩=>thn (ho' pins s4 σ H4 y z' u w' _ I4 r2 r4 q4) λd' s5 ⟨z2,H5,I5,r5,k2,e2,q5⟩=>?_));subst e2;cases r5;exact uL ⟨H5,I5,q5⟩
theorem K6:(sizeLine:Nat)<2 ^ 63:=by rw[sizeLine_eq];decide
theorem vals1{x:V}{us:List Value}(r:Vals [x] us):∃u,us=[u]/\RelV x u:=by
 cases r with
 |cons r1 r2=>cases r2;exact⟨_,rfl,r1⟩
theorem vals2{x y:V}{us:List Value}(r:Vals [x,y] us):∃u w',us=[u,w']/\RelV x u/\RelV y w':=by
 cases r with
 |cons r1 r2=>
  cases r2 with
  |cons r3 r4=>cases r4;exact⟨_,_,rfl,r1,r3⟩
theorem call_max2(hc:X.calm=true):zG X (.builtin "max") (λxs H Q=>∃i j,xs=[.int i,.int j]/\Q (.int (if j>i then j else i)) H):=by
 intro pins s σ H xs us Q I r h;obtain⟨i,j,rfl,q⟩:=h;obtain⟨u,w',rfl,⟨t,rfl⟩,⟨t',rfl⟩⟩:=vals2 r;refine max_two_ints (I.ok.hd hc) λh' tk k=>⟨_,H,I.kept k,?_,q⟩
 by_cases hj:j>i
 ·rw[if_pos hj,if_pos hj];exact⟨_,rfl⟩
 ·rw[if_neg hj,if_neg hj];exact⟨_,rfl⟩
theorem call_min2(hc:X.calm=true):zG X (.builtin "min") (λxs H Q=>∃i j,xs=[.int i,.int j]/\Q (.int (if j<i then j else i)) H):=by
 intro pins s σ H xs us Q I r h;obtain⟨i,j,rfl,q⟩:=h;obtain⟨u,w',rfl,⟨t,rfl⟩,⟨t',rfl⟩⟩:=vals2 r;refine min_two_ints (I.ok.hd hc) λh' tk k=>⟨_,H,I.kept k,?_,q⟩
 by_cases hj:j<i
 ·rw[if_pos hj,if_pos hj];exact⟨_,rfl⟩
 ·rw[if_neg hj,if_neg hj];exact⟨_,rfl⟩
theorem call_int1:zG X (.type "int") (λxs H Q=>(∃i,xs=[.int i]/\Q (.int i) H)\/∃k,xs=[.bl k]/\Q (.int (if k then 1 else 0)) H):=by
 intro pins s σ H xs us Q I r h;rcases h with⟨i,rfl,q⟩|⟨k,rfl,q⟩
 ·obtain⟨u,rfl,t,rfl⟩:=vals1 r;exact call_int_int ⟨.int i,H,I,⟨_,rfl⟩,q⟩
 ·obtain⟨u,rfl,r1⟩:=vals1 r;cases r1;exact call_int_bool ⟨.int (if k then 1 else 0),H,I.tok _,⟨_,rfl⟩,q⟩
end
theorem RelO.some_of{v:V}{o:Option Value}(r:RelO (some v) o):∃u,o=some u/\RelV v u:=by
 cases o with
 |none=>exact(show False from r).elim
 |some u=>exact⟨u,rfl,r⟩
structure Room(k:Nat)(A:Around):Prop where
 hd:A.handled=none
 dp:A.depth+3*k+5<recursionLimit
 un:A.units+16*k+200<cLine
 gd:A.guards=some []
theorem Room.mono{j k:Nat}{A:Around}(r:Room k A)(h:j<=k):Room j A:=⟨r.hd,by have:=r.dp;omega,by have:=r.un;omega,r.gd⟩
theorem Room.deeper{k:Nat}{A:Around}(r:Room (k+1) A)(env:Env):Room k (A.deeper env):=
 ⟨r.hd,by have:=r.dp;show A.depth+1+3*k+5<_;omega,by have:=r.un;show A.units+3+16*k+200<_;omega,r.gd⟩
theorem Room.in1{k:Nat}{A:Around}(r:Room (k+1) A):Room k A.in1:=
 ⟨r.hd,by have:=r.dp;show A.depth+3*k+5<_;omega,by have:=r.un;show A.units+1+16*k+200<_;omega,r.gd⟩
theorem Room.depth{k:Nat}{A:Around}(r:Room k A):A.depth<recursionLimit:=by have:=r.dp;omega
theorem Room.units{k:Nat}{A:Around}(r:Room k A):A.units+64<cLine:=by have:=r.un;omega
noncomputable def qGh:TA:=λ_ H Q=>Q [] H
noncomputable def qE4(ta:TE)(tr:TA):TA:=λσ H Q=>ta σ H λx H1=>tr σ H1 λxs H2=>Q (x::xs) H2
section
variable{X:Cx}{e:Expr}{es:List Expr}{te:TE}{t:TA}{pos:Pos}
theorem pa_nil:PA X [] qGh:=λ_ _ _ _ H Q I h=>Calls.spliced_nil ⟨[],H,I,.nil,h⟩
theorem pa_cons(ha:PE X e te)(hr:PA X es t)(hs:starEach (e::es) X.env=(false,eval e X.env)::starEach es X.env:=by rfl):PA X (e::es) (qE4 te t):=by
 intro pos pins s σ H Q I h;rw[hs];show wpAny _ _ (spliced ((false,eval e X.env)::backTo pos (starEach es X.env))) _ _ s;refine Calls.spliced_cons (thn (ha pins s σ H _ I h) λu s1 ⟨x,H1,I1,r1,q1⟩=>?_);exact thn (hr pos pins s1 σ H1 _ I1 q1) λus s2 ⟨xs,H2,I2,r2,q2⟩=>⟨x::xs,H2,I2,.cons r1 r2,q2⟩
noncomputable def qHT(t:TA):TE:=λσ H Q=>t σ H λxs H1=>xs.length<=sizeLine/\∀p,H1 p=none->Q (.ref p) (upd H1 p (.tup xs))
noncomputable def qHe(t:TA):TE:=λσ H Q=>t σ H λxs H1=>xs.length<=sizeLine/\∀p,H1 p=none->Q (.ref p) (upd H1 p (.lst xs))
theorem pe_tup {x1}(h:PA X es t):PE X (.Tuple es x1 pos) (qHT t):=by
 intro pins s σ H Q I hq;refine wpAny_Tuple_spliced (thn (h pos pins s σ H _ I hq) λus s1 ⟨xs,H1,I1,r,z,q⟩=>⟨by rw[<-r.length];exact z,?_⟩);have hf:H1 s1.heap.objs.size=none:=I1.hok.fresh (wM _);refine⟨.ref s1.heap.objs.size,upd H1 s1.heap.objs.size (.tup xs),I1.laid (t':=s1.toks) (λb u e=>Heap.get?_push_of_some _ e) (wM _) ?_,rfl,q _ hf⟩;exact⟨z,us,r,⟨_,Heap.get?_push_size _ rfl,rfl,_,rfl⟩⟩
theorem pe_lst(h:PA X es t):PE X (.List es pos) (qHe t):=by
 intro pins s σ H Q I hq;refine wpAny_List_spliced (thn (h pos pins s σ H _ I hq) λus s1 ⟨xs,H1,I1,r,z,q⟩=>⟨by rw[<-r.length];exact z,?_⟩);have hf:H1 s1.heap.objs.size=none:=I1.hok.fresh (wM _);refine⟨.ref s1.heap.objs.size,upd H1 s1.heap.objs.size (.lst xs),I1.laid (t':=s1.toks) (λb u e=>Heap.get?_push_of_some _ e) (wM _) ?_,rfl,q _ hf⟩;exact⟨z,us,0,r,Heap.get?_push_size _ rfl⟩
end
noncomputable abbrev Sp:=List V->Hp->VK->XK->Prop
noncomputable abbrev CXT:=List Env->Hp->Shared->XK->Value->Shared->Prop
structure Env0(P:Program)(w:World)(K:PySem.W.Frag)(mg:Str->Option Value)(base:Heap)(A:Around)(outer:List Env)(s:Shared)(H:Hp):Prop where
 frames:A.frames=some outer
 mod:Mod K mg base
 bs:∀b o,base.get? b=some o->s.heap.get? b=some o/\H b=none
 bsz:base.objs.size<=s.heap.objs.size
 funs:s.heap.FunFrames base outer
 frf:∀b∈frs outer,H b=none
 hok:HOk P w H s.heap
 bare:AllBare s.gens
def CE(outer:List Env)(P:Program)(w:World)(H:Hp)(s:Shared)(Q:VK)(u:Value)(s':Shared):Prop:=
 ∃v H',s'.os=s.os/\AllBare s'.gens/\Un (frs outer) [] H H' s.heap s'.heap/\HOk P w H' s'.heap/\RelV v u/\Q v H'
def CR(CX:CXT)(outer:List Env)(P:Program)(w:World)(H:Hp)(s:Shared)(Q:VK)(E:XK)(r:Result)(s':Shared):Prop:=
 match r with
 | .ok (.ret u)=>CE outer P w H s Q u s'
 | .ok _=>False
 | .error e=>CX outer H s E e s'
structure FnOk(P:Program)(w:World)(K:PySem.W.Frag)(mg:Str->Option Value)(base:Heap)(CX:CXT)(k:Nat)(f:Addr)(fd:FuncData)(ps:List Str)(sp:Sp):Prop where
 len:∀vs H Q E,sp vs H Q E->vs.length=ps.length
 run:∀(A:Around) (outer:List Env) (s:Shared) (H:Hp) (args:Args) (us:List Value) (vs:List V) (Q:VK) (E:XK),Room k A->Env0 P w K mg base A outer s H->BindsTo s fd args (ps.zip us)->Vals vs us->sp vs H Q E ->
  codeAny (model P w) A (.call (.ref f) args) (CR CX outer P w H s Q E) s
theorem Env0.in1{P:Program}{w:World}{K:PySem.W.Frag}{mg:Str->Option Value}{base:Heap}{A:Around}{outer:List Env}{s:Shared}{H:Hp}(e:Env0 P w K mg base A outer s H):
  Env0 P w K mg base A.in1 outer s H:=⟨e.frames,e.mod,e.bs,e.bsz,e.funs,e.frf,e.hok,e.bare⟩
section
variable{X:Cx}{pins:List (Addr×Obj)}{σ:St}{H:Hp}{s s':Shared}
theorem Inv.env0(I:Inv X pins σ H s):Env0 X.prog X.w X.K X.mg X.base X.A X.stack s H:=
 ⟨I.ok.frames,I.ok.mod,I.bs,wS I.ok.bsz I.sz,I.stack,I.stkFree,I.hok,I.bare⟩
theorem Inv.after{Q:VK}{u:Value}(I:Inv X pins σ H s)(h:CE X.stack X.prog X.w H s Q u s'):EP X pins σ Q u s':=by
 obtain⟨v,H',os,bare,un,hok,r,q⟩:=h;obtain⟨hh,g,d,t,os'⟩:=s';obtain rfl:os'=s.os:=os;exact⟨v,H',I.call (h':=hh) (g':=g) (d':=d) (t':=t) (ch:=[]) un hok bare (λb z=>absurd z (by simp)),r,q⟩
end
noncomputable def tCall(sp:Sp)(dvs:List V)(E:XK)(t:TA):TE:=λσ H Q=>t σ H λvs H1=>sp (vs++dvs) H1 Q E
def Binds(K:PySem.W.Frag)(fd:FuncData)(ps:List Str)(ds:List Value):Prop:=
 ∀(s:Shared) (us:List Value),K.In s.heap->(us++ds).length=ps.length->BindsTo s fd ⟨us,[]⟩ (ps.zip (us++ds))
theorem Binds.all{K:PySem.W.Frag}{fd:FuncData}{ps:List Str}(h:∀us:List Value,us.length=ps.length->bindArgs fd ⟨us,[]⟩=pure (ps.zip us)):Binds K fd ps []:=λs us _ hl=>by
 rw[wd]at hl ⊢;exact .of_eq (h us hl)
def C7(CX:CXT)(X:Cx)(E:XK):Prop:=∀(pins:List (Addr×Obj)) (σ:St) (H:Hp) (s:Shared) (e:Value) (s':Shared),Inv X pins σ H s->CX X.stack H s E e s'->X.xe e s'
section
variable{X:Cx}{CX:CXT}{k:Nat}{f C:Addr}{fd:FuncData}{ps:List Str}{sp:Sp}{dvs:List V}{ds:List Value}{E:XK}{x m:Str}{p pos apos:Pos}{e o:Expr}{es:List Expr}{ta:TE}{t:TA}
theorem qAx{pins:List (Addr×Obj)}{σ:St}{H:Hp}{s:Shared}{Q:VK}{us:List Value}{vs:List V}(F:FnOk X.prog X.w X.K X.mg X.base CX k f fd ps sp)(hr:Room k X.A)(hb:Binds X.K fd ps ds)(hd:Vals dvs ds)(hx:C7 CX X E)
  (I:Inv X pins σ H s) (r:Vals vs us) (h:sp (vs++dvs) H Q E):wpAny (model X.prog X.w) X.A (call (.ref f) us) (EP X pins σ Q) X.xe s:=by
 have r2:Vals (vs++dvs) (us++ds):=r.append hd;have hl:(us++ds).length=ps.length:=by rw[<-r2.length];exact F.len _ _ _ _ h
 refine wpAny_call (codeAny_mono (F.run X.A X.stack s H ⟨us,[]⟩ (us++ds) (vs++dvs) Q E hr I.env0 (hb s us I.kIn hl) r2 h) λr s' hq=>?_);cases r with
 |error e=>exact hx pins σ H s e s' I hq
 |ok fl=>
  cases fl with
  |ret u=>exact I.after hq
  |next=>exact False.elim hq
  |brk=>exact False.elim hq
  |cont=>exact False.elim hq
theorem pe_call(F:FnOk X.prog X.w X.K X.mg X.base CX k f fd ps sp)(hr:Room k X.A)(hg:Gl X x)(hm:X.mg x=some (.ref f))(hk:PySem.W.keepIn X.K (.ref f)=true)(hb:Binds X.K fd ps ds)(hd:Vals dvs ds)(hx:C7 CX X E)
  (ha:PA X (e::es) t) (hdb:(x==("__debug__":Str))=false:=by decide) (he:starEach (e::es) X.env=(false,eval e X.env)::starEach es X.env:=by rfl) (hpl:(backTo pos (starEach es X.env)).any (·.1)=false:=by rfl):
  PE X (.Call (.Name x p) (e::es) [] pos) (tCall sp dvs E t):=by
 intro pins s σ H Q I h;refine wpAny_Call_Name_kw (A4 I hg hm ?_ hdb);refine PySem.W.callWith_K (h₀:=X.base) I.ok.mod.kin hk (thn (ha pos pins s σ H _ I h) λus s1 ⟨vs,H1,I1,r,q⟩=>⟨I1.kIn,?_⟩) he hpl;exact qAx F hr hb hd hx I1 r q
theorem pe_call0(F:FnOk X.prog X.w X.K X.mg X.base CX k f fd ps sp)(hr:Room k X.A)(hg:Gl X x)(hm:X.mg x=some (.ref f))(hk:PySem.W.keepIn X.K (.ref f)=true)(hb:Binds X.K fd ps ds)(hd:Vals dvs ds)(hx:C7 CX X E)
  (hdb:(x==("__debug__":Str))=false:=by decide):PE X (.Call (.Name x p) [] [] pos) (tCall sp dvs E qGh):=by
 intro pins s σ H Q I h;refine wpAny_Call_Name_kw (A4 I hg hm ?_ hdb);exact PySem.W.callWith_K0 I.kIn hk (qAx (us:=[]) F hr hb hd hx I .nil h)
end
structure zY(N P:List Str)(sc:Scope):Prop where
 kind:sc.kind=.function
 co:sc.isCoroutine=false
 gen:sc.isGenerator=false
 nd:N.Nodup
 pre:N.take P.length=P
 par:∀x∈P,sc.names.lookup x=some .local\/sc.names.lookup x=some .cell
 nofree:∀y∈sc.names,y.2≠.free
theorem Jh{kindOf:Str->Option NameKind}{x:Str}:∀{binds:List (Str×Value)}{m:Str->Option Value},(∀v,(x,v)∉binds)->bindL kindOf binds m x=m x
 | [],_,_=>rfl
 | (n,v)::r,m,h=>by
  unfold bindL;rw[Jh λw hw=>h w (wL _ hw)];split
  ·have:x≠n:=by rintro rfl;exact h v wU
   simp[this]
  ·rfl
theorem JI{kindOf:Str->Option NameKind}{x:Str}:∀{binds:List (Str×Value)}{m:Str->Option Value},(∀v,(x,v)∉binds)->bindC kindOf binds m x=m x
 | [],_,_=>rfl
 | (n,v)::r,m,h=>by
  unfold bindC;rw[JI λw hw=>h w (wL _ hw)];split
  ·rfl
  ·have:x≠n:=by rintro rfl;exact h v wU
   simp[this]
theorem Jb{kindOf:Str->Option NameKind}{x:Str}{v:Value}:∀{P:List Str}{vs:List Value}{i:Nat}{m:Str->Option Value},P.Nodup->P[i]?=some x->vs[i]?=some v->kindOf x=some .local ->
  bindL kindOf (P.zip vs) m x=some v
 | [],_,_,_,_,h,_,_=>by simp at h
 |_::_,[],_,_,_,_,h,_=>by simp at h
 |p::P,w::vs,0,m,nd,h1,h2,hk=>by
  simp at h1 h2;subst h1;subst h2;show bindL kindOf ((p,w)::P.zip vs) m p=_;unfold bindL;rw[Jh λv hv=>(wf.mp nd).1 (vy hv).1,if_pos hk];simp
 |p::P,w::vs,i+1,m,nd,h1,h2,hk=>by
  show bindL kindOf ((p,w)::P.zip vs) m x=_;unfold bindL;exact Jb (i:=i) (wf.mp nd).2 (by simpa using h1) (by simpa using h2) hk
theorem Jo{kindOf:Str->Option NameKind}{x:Str}{v:Value}:∀{P:List Str}{vs:List Value}{i:Nat}{m:Str->Option Value},P.Nodup->P[i]?=some x->vs[i]?=some v->kindOf x≠some .local ->
  bindC kindOf (P.zip vs) m x=some v
 | [],_,_,_,_,h,_,_=>by simp at h
 |_::_,[],_,_,_,_,h,_=>by simp at h
 |p::P,w::vs,0,m,nd,h1,h2,hk=>by
  simp at h1 h2;subst h1;subst h2;show bindC kindOf ((p,w)::P.zip vs) m p=_;unfold bindC;rw[JI λv hv=>(wf.mp nd).1 (vy hv).1,if_neg hk];simp
 |p::P,w::vs,i+1,m,nd,h1,h2,hk=>by
  show bindC kindOf ((p,w)::P.zip vs) m x=_;unfold bindC;exact Jo (i:=i) (wf.mp nd).2 (by simpa using h1) (by simpa using h2) hk
noncomputable def start(N:List Str)(vs:List V):St:=vs.map some++List.replicate (N.length-vs.length) none
noncomputable def cxOf(CX:CXT)(P:Program)(w:World)(K:PySem.W.Frag)(mg:Str->Option Value)(base:Heap)(N:List Str)(qual:Str)(scope:Scope)(f:Addr)(cd:Value)(A:Around)(outer:List Env)(s:Shared)(H:Hp)(E:XK):Cx where
 prog:=P
 w:=w
 K:=K
 mg:=mg
 base:=base
 A:=A.deeper (envOfC qual scope s.heap.objs.size f cd)
 N:=N
 s₀:=s
 H₀:=H
 env:=envOfC qual scope s.heap.objs.size f cd
 outer:=outer
 stack:=envOfC qual scope s.heap.objs.size f cd::outer
 ex:=[]
 calm:=true
 fn:=λ_=>true
 pn:=[]
 xe:=λe s'=>wpAny (model P w) (A.deeper (envOfC qual scope s.heap.objs.size f cd)) (leaving (envOfC qual scope s.heap.objs.size f cd) e) (λ_ s''=>CX outer H s E e s'') (λe' s''=>CX outer H s E e' s'') s'
theorem C9{sc:Scope}{n:Nat}{x:Str}(h:sc.names.lookup x=some .cell):∃c,(cellsFrom n sc.names []).lookup x=some c:=by
 have q:=PySem.W.cellsFrom_some sc.names n [] (.inl h);exact Option.isSome_iff_exists.mp q
theorem X5{CX:CXT}{P:Program}{w:World}{K:PySem.W.Frag}{mg:Str->Option Value}{base:Heap}{N ps:List Str}{qual:Str}{scope:Scope}{f:Addr}{cd:Value}{A:Around}{outer:List Env}{s s1:Shared}{H:Hp}{E:XK}{us:List Value}{vs:List V}
  (S:zY N ps scope) (hd:A.handled=none) (e0:Env0 P w K mg base A outer s H) (hl:vs.length=ps.length) (r:Vals vs us)
  (x:InCallC s s.heap.objs.size (bindL (envOfC qual scope s.heap.objs.size f cd).kindOf (ps.zip us) λ_=>none) (cellsFrom (s.heap.objs.size+1) scope.names []) (bindC (envOfC qual scope s.heap.objs.size f cd).kindOf (ps.zip us) λ_=>none) s1):
  Inv (cxOf CX P w K mg base N qual scope f cd A outer s H E) [] (start N vs) H s1:=by
 have hpl:ps.length<=N.length:=by have:=congrArg List.length S.pre;rw[vZ]at this;omega
 obtain⟨h1,tk,rfl,hk⟩:=x.done;have noA:∀b:Addr,b∉(cxOf CX P w K mg base N qual scope f cd A outer s H E).ex:=λb z=>absurd (show b∈([]:List Addr) from z) (by simp);refine⟨⟨e0.mod,S.kind,rfl,rfl,wM _,λy z c h1 h2=>?_,λy hy=>?_,λy c _ h=>?_,λ_=>hd,Around.frames_deeper e0.frames,.inr ⟨rfl,rfl⟩,λb z=>absurd z (noA b),e0.bs,e0.bsz,λb _ _=>noA b,λb z=>absurd z (noA b),e0.funs,e0.frf⟩,
  rfl,e0.bare,Un.kept hk,⟨_,x.toInCall.ns,λi y v h1 h2 h3=>?_⟩,λy c h=>⟨_,x.cell y c h⟩,e0.hok.fresh (wM _),λy c h=>?_,λp hp=>absurd (show p∈([]:List (Addr×Obj)) from hp) (by simp),e0.hok.kept hk,?_⟩
 ·exact name_of_addr x.apart (PySem.mem_of_lookup h1) (PySem.mem_of_lookup h2)
 ·have hy:scope.names.lookup y=some .cell\/scope.names.lookup y=some .free:=hy;rcases hy with hy|hy
  ·exact C9 hy
  ·exact absurd rfl (S.nofree _ (PySem.mem_of_lookup hy))
 ·exact vQ (x.above y c (PySem.mem_of_lookup h))
 ·have hi:i<vs.length:=by
   unfold start at h2;by_cases hi:i<vs.length
   ·exact hi
   ·rw[wa (by simpa using hi)]at h2;rw[List.getElem?_replicate]at h2;split at h2<;>cases h2
  have ha:vs[i]?=some v:=by
   unfold start at h2;rw[wC (by simpa using hi),wg]at h2;cases e:vs[i]? with
   |none=>rw[e]at h2;cases h2
   |some a=>rw[e]at h2;cases h2;rfl
  obtain⟨u,hu,rv⟩:=r.get ha;have hp:ps[i]?=some y:=by
   rw[<-S.pre,vA (by omega)];exact h1
  have ndP:ps.Nodup:=by rw[<-S.pre];exact S.nd.sublist (List.take_sublist _ _)
  refine⟨u,rv,?_⟩;rcases S.par y (wT hp) with k|k
  ·exact .inl ⟨k,Jb ndP hp hu k⟩
  ·obtain⟨c,e⟩:=C9 (n:=s.heap.objs.size+1) k;refine .inr ⟨.inl k,c,e,?_⟩;have q:=x.cell y c e;rw[Jo ndP hp hu (by show scope.names.lookup y≠_;rw[k];decide)]at q;exact q
 ·exact e0.hok.fresh (vQ (x.above y c (PySem.mem_of_lookup h)))
 ·unfold start;show _=N.length;rw[wV,wK,List.length_replicate];omega
theorem qE2{CX:CXT}{P:Program}{w:World}{K:PySem.W.Frag}{mg:Str->Option Value}{base:Heap}{k:Nat}{f:Addr}{name qual:Str}{params:Arguments}{body:List Stmt}{scope:Scope}{dV kV doc pm cdv ct oc:Value}{an od:Option Addr}
  {osl:Array (Option Value)}{N ps:List Str}{sp:Sp}(lk:K.lookup f=some ⟨oc,od,.func (PySem.W.fnOf name qual params body scope dV kV doc pm an cdv ct),osl⟩) (hcd:PySem.W.codeIn K cdv qual=true) (S:zY N ps scope)
  (len:∀vs H Q E,sp vs H Q E->vs.length=ps.length)
  (hbody:∀(A:Around) (outer:List Env) (s:Shared) (H:Hp) (vs:List V) (Q:VK) (E:XK),Room k (A.deeper (envOfC qual scope s.heap.objs.size f cdv))->sp vs H Q E ->
   ∃t,PSs (cxOf CX P w K mg base N qual scope f cdv A outer s H E) body t/\t { nx:=λ_ H'=>Q .non H',rt:=Q } (start N vs) H):
  FnOk P w K mg base CX (k+1) f (PySem.W.fnOf name qual params body scope dV kV doc pm an cdv ct) ps sp:=by
 refine⟨len,λA outer s H args us vs Q E hr e0 hb r hsp=>?_⟩;have hl:=len _ _ _ _ hsp;have KX:K.In s.heap:=e0.mod.kin.keeps λb o e=>(e0.bs b o e).1;have lim:s.heap.NoLimit:=e0.mod.nolimit.keeps λb o e=>(e0.bs b o e).1;have hkind:∀y∈ps.zip us,scope.names.lookup y.1=some .local\/(scope.names.lookup y.1=some .cell/\((cellsFrom (s.heap.objs.size+1) scope.names []).lookup y.1).isSome=true):=λ⟨n,v⟩ hy=>by
  rcases S.par n (vy hy).1 with q|q
  ·exact .inl q
  ·exact .inr ⟨q,PySem.W.cellsFrom_some _ _ _ (.inl q)⟩
 refine codeAny_call_function hr.depth (KX _ _ lk) rfl S.co S.gen rfl (PySem.W.codeRec_of KX hcd) (hb _ _ _ _ ?_);refine wpAny_newFunctionEnv_cells S.kind hkind λenv he s1 x=>?_;subst he;refine⟨lim.keeps x.toInCall.keep,codeAny_func ?_⟩;obtain⟨t,ht,hq⟩:=hbody A outer s H vs Q E (hr.deeper _) hsp;have I:Inv (cxOf CX P w K mg base N qual scope f cdv A outer s H E) [] (start N vs) H s1:=X5 S hr.hd e0 hl r x;refine wpAny_mono (ht [] s1 (start N vs) H _ I hq) (λfl s' hs=>?_) λe s' hs=>hs;have fin:∀{σ':St}{H':Hp}{v:V}{u:Value},Inv (cxOf CX P w K mg base N qual scope f cdv A outer s H E) [] σ' H' s'->RelV v u->Q v H'->CE outer P w H s Q u s':=
  λ{σ' H' v u} J rv q=>⟨v,H',J.os,J.bare,J.base,J.hok,rv,q⟩
 cases fl with
 |ret u=>
  obtain⟨v,σ',H',J,rv,q⟩:=hs;exact fin J rv q
 |next=>
  obtain⟨σ',H',J,q⟩:=hs;exact fin (v:=V.non) (u:=Value.none) J rfl q
 |brk=>
  obtain⟨_,_,_,q⟩:=hs;exact False.elim q
 |cont=>
  obtain⟨_,_,_,q⟩:=hs;exact False.elim q
section
variable{X:Cx}{x:Str}{p pos:Pos}{e:Expr}{es:List Expr}{t:TA}{id T:String}{r:List V->Hp->VK->Prop}
noncomputable def tCB(r:List V->Hp->VK->Prop)(t:TA):TE:=λσ H Q=>t σ H λvs H1=>r vs H1 Q
theorem pe_callB(hc:zG X (.builtin id) r)(hg:Gl X x)(hm:X.mg x=none)(hv:bootBuiltins x=some (.builtin id))(ha:PA X (e::es) t)(hn:x≠"__name__":=by decide)(hdb:(x==("__debug__":Str))=false:=by decide)
  (he:starEach (e::es) X.env=(false,eval e X.env)::starEach es X.env:=by rfl) (hpl:(backTo pos (starEach es X.env)).any (·.1)=false:=by rfl):PE X (.Call (.Name x p) (e::es) [] pos) (tCB r t):=by
 intro pins s σ H Q I h;refine wpAny_Call_Name_kw (ld_blt I hg hm hv ?_ hn hdb);exact PyProof.Rows.callWith_builtin1 (thn (ha pos pins s σ H _ I h) λus s1 ⟨vs,H1,I1,r1,q1⟩=>hc pins s1 σ H1 vs us Q I1 r1 q1) he hpl
theorem pe_callTy(hc:zG X (.type T) r)(hg:Gl X x)(hm:X.mg x=none)(hv:bootBuiltins x=some (.type T))(ha:PA X (e::es) t)(hn:x≠"__name__":=by decide)(hdb:(x==("__debug__":Str))=false:=by decide)
  (he:starEach (e::es) X.env=(false,eval e X.env)::starEach es X.env:=by rfl) (hpl:(backTo pos (starEach es X.env)).any (·.1)=false:=by rfl):PE X (.Call (.Name x p) (e::es) [] pos) (tCB r t):=by
 intro pins s σ H Q I h;refine wpAny_Call_Name_kw (ld_blt I hg hm hv ?_ hn hdb);exact PyProof.Rows.callWith_type1 (thn (ha pos pins s σ H _ I h) λus s1 ⟨vs,H1,I1,r1,q1⟩=>hc pins s1 σ H1 vs us Q I1 r1 q1) he hpl
end
end _L
namespace _H
open PySem PyProof.Rows
section
variable{prog:Program}{w:World}{A:Around}{E:Value->Shared->Prop}{s:Shared}
theorem cat_tup{t b:Addr}{vs ws:List Value}{Q:Value->Shared->Prop}(ht:IsTup s.heap t vs.toArray)(hb:IsTup s.heap b ws.toArray)(hv:vs≠[])
  (h1:ws=[]->Q (.ref t) s) (h2:ws≠[]->Q (.ref s.heap.objs.size) { s with heap:=s.heap.push { cls:=.type "tuple",data:=.seq (vs++ws).toArray } })
  (hsz:vs.length+ws.length<=sizeLine):wpAny (model prog w) A (binaryOp .Add (.ref t) (.ref b)) Q E s:=by
 obtain⟨⟨cls,dd,data,sl⟩,ho,hc,n,hd⟩:=id ht;obtain⟨⟨cls2,dd2,data2,sl2⟩,ho2,hc2,n2,hd2⟩:=id hb;simp only at hc hd hc2 hd2;subst hc hd hc2 hd2;have e:vs.toArray++ws.toArray=(vs++ws).toArray:=by simp
 by_cases hw:ws=[]
 ·exact concat_meets ⟨_,ho,rfl⟩ ⟨_,ho2,rfl⟩ noFill_tuple_add seq_tuple_add PySem.F.slot_tuple_add PySem.F.entry_tuple_add (PySem.F.args_tuple_add_2 _ _)
   (tuple_addW1 t b vs.toArray ws.toArray n n2 dd dd2 sl sl2 (by simpa using hv) (by simp[hw])) ⟨ho,ho2,h1 hw⟩
 ·refine concat_meets ⟨_,ho,rfl⟩ ⟨_,ho2,rfl⟩ noFill_tuple_add seq_tuple_add PySem.F.slot_tuple_add PySem.F.entry_tuple_add (PySem.F.args_tuple_add_2 _ _)
   (tuple_addW2 t b vs.toArray ws.toArray n n2 dd dd2 sl sl2 (by simpa using hv) (by simpa using hw) (by rw[wO,wO];exact hsz)) ⟨ho,ho2,?_⟩
  rw[e];exact h2 hw
noncomputable def sIx(n d:Nat):Option Int->Nat
 |none=>d
 |some v=>if v<0 then (v+(n:Int)).toNat else min v.toNat n
theorem sIx_none(n d:Nat):sIx n d none=d:=rfl
theorem sIx_nat(n d k:Nat):sIx n d (some (k:Int))=min k n:=by
 show (if (k:Int)<0 then ((k:Int)+(n:Int)).toNat else min (k:Int).toNat n)=min k n;rw[if_neg (by omega),vk]
theorem qDW(n d:Nat)(hd:d<=n)(o:Option Int):sIx n d o<=n:=by
 cases o with
 |none=>exact hd
 |some v=>
  show (if v<0 then (v+(n:Int)).toNat else min v.toNat n)<=n;by_cases hv:v<0
  ·rw[if_pos hv];omega
  ·rw[if_neg hv];exact Nat.min_le_right _ _
theorem a4(v:Int)(n d:Nat):(if v<0 then max (v+(n:Int)) 0 else min v (n:Int))=((sIx n d (some v):Nat):Int):=by
 show (if v<0 then max (v+(n:Int)) 0 else min v (n:Int))=(((if v<0 then (v+(n:Int)).toNat else min v.toNat n):Nat):Int);by_cases hv:v<0
 ·simp only[if_pos hv];omega
 ·simp only[if_neg hv];omega
theorem O3(lo hi:Option Int)(n:Nat):Builtin.Slice.sliceAdjust lo hi 1 (n:Int)=(((sIx n 0 lo:Nat):Int),((sIx n n hi:Nat):Int)):=by
 have h1:¬ ((1:Int)<0):=by omega
 unfold Builtin.Slice.sliceAdjust;simp only[h1,if_false];refine Prod.ext ?_ ?_
 ·cases lo with
  |none=>rfl
  |some v=>exact a4 v n 0
 ·cases hi with
  |none=>rfl
  |some v=>exact a4 v n n
theorem O4(i j:Nat):Builtin.Slice.slicePlaces (i:Int) (j:Int) 1=j-i:=by
 unfold Builtin.Slice.slicePlaces;have h1:(1:Int)>0:=by omega
 simp only[h1,if_true,Int.ediv_one];split<;>omega
theorem ZT{v:Value}{o:Option Int}{Q:Option Int->Shared->Prop}(p:IsPart v o)(h:Q o s):wpAny (model prog w) A (Builtin.Slice.slicePartIndex v) Q E s:=by
 cases p with
 |none=>exact slicePart_none h
 |int i t=>exact slicePart_int h
theorem QH{sl:Addr}{vl vu:Value}{lo hi:Option Int}{n:Nat}{Q:Int×Int×Nat->Shared->Prop}(hs:s.heap.IsSliceOf sl vl vu .none)(pl:IsPart vl lo)(pu:IsPart vu hi)
  (h:Q (((sIx n 0 lo:Nat):Int),1,sIx n n hi-sIx n 0 lo) s):wpAny (model prog w) A (Builtin.Slice.sliceApplied (.ref sl) (pure (n:Int))) Q E s:=by
 obtain⟨os,hos,hcs,hds⟩:=id hs;unfold Builtin.Slice.sliceApplied Builtin.Slice.sliceFields;refine uF (uF (wpAny_field hos hds (x:=vl) rfl (uF (wpAny_field hos hds (x:=vu) rfl (uF (wpAny_field hos hds (x:=.none) rfl (uG ?_)))))));refine uF (slicePart_none ?_);show wpAny _ _ (if ((1:Int)==0)=true then _ else _) _ _ s;rw[if_neg (by decide)];refine uF (ZT pl (uF (ZT pu (uF (uG ?_)))));show wpAny _ _ (match Builtin.Slice.sliceAdjust lo hi 1 (n:Int) with|(lo,hi)=>pure (lo,(1:Int),Builtin.Slice.slicePlaces lo hi 1)) _ _ s;rw[O3 lo hi n];show wpAny _ _ (pure (((sIx n 0 lo:Nat):Int),(1:Int),Builtin.Slice.slicePlaces ((sIx n 0 lo:Nat):Int) ((sIx n n hi:Nat):Int) 1)) _ _ s;rw[O4];exact uG h
theorem qAM(xs:Array Value)(i k:Nat):((List.range k).filterMap λ(m:Nat)=>xs[((i:Int)+(m:Int)*1).toNat]?).toArray=((xs.toList.drop i).take k).toArray:=by
 have e:(λ(m:Nat)=>xs[((i:Int)+(m:Int)*1).toNat]?)=λm=>xs[i+m]?:=by
  funext m
  have:((i:Int)+(m:Int)*1).toNat=i+m:=by omega
  rw[this]
 rw[e];have:=pick_run xs i k;rw[List.filterMap_map]at this;have e2:((λx=>xs[x]?)∘λx=>i+x)=λm=>xs[i+m]?:=rfl;rw[e2]at this;rw[this]
theorem getItem_tuple_cut{t sl:Addr}{items:Array Value}{vl vu:Value}{lo hi:Option Int}{Q:Value->Shared->Prop}(ht:IsTup s.heap t items)(hs:s.heap.IsSliceOf sl vl vu .none)(pl:IsPart vl lo)(pu:IsPart vu hi)
  (hw:¬ (sIx items.size 0 lo=0/\sIx items.size items.size hi=items.size))
  (h:Q (.ref s.heap.objs.size) { s with heap:=s.heap.push { cls:=.type "tuple",data:=.seq ((items.toList.drop (sIx items.size 0 lo)).take (sIx items.size items.size hi-sIx items.size 0 lo)).toArray } })
  (hsz:items.size<=sizeLine):wpAny (model prog w) A (getItem (.ref t) (.ref sl)) Q E s:=by
 have htake:sizeOk (.seq ((items.toList.drop (sIx items.size 0 lo)).take (sIx items.size items.size hi-sIx items.size 0 lo)).toArray):=by
  show ((items.toList.drop (sIx items.size 0 lo)).take (sIx items.size items.size hi-sIx items.size 0 lo)).toArray.size<=sizeLine;rw[wO,vZ,List.length_drop,vD];omega
 have hj:sIx items.size items.size hi<=items.size:=qDW _ _ (wM _) hi;obtain⟨os,hos,hcs,hds⟩:=id hs;have hTs:s.TypeIs (.ref sl) "slice":=⟨os,hos,hcs⟩
 unfold getItem
 try with_reducible refine wpAny_holding ?_
 first|refine uF (uG ?_)|skip
 refine uF (wpAny_sequenceKey ht.typeIs (by decide) ?_);refine uF (wpAny_callSpecial?_slot (name:=Str.ofString "__getitem__") ht.typeIs PyProof.Rows.slot_tuple_getitem
  (wpAny_call_entry PyProof.Rows.slot_tuple_getitem ht.typeIs entry_tuple_getitem ?_ (args_tuple_getitem _ _)))
 show wpAny _ _ (Builtin.Tuple.tupleItemsOf (.ref t) >>=_) _ _ s;refine uF (tupleItemsOf_ ht ?_);refine uF (wpAny_typeOf hTs ?_);rw[if_pos (by decide)];refine uF (QH hs pl pu ?_);have hno:¬ ((((sIx items.size 0 lo:Nat):Int)==0&&(1:Int)==1&&(sIx items.size items.size hi-sIx items.size 0 lo)==items.size)=true):=by
  intro q;rw[wE,wE]at q;have q1:((sIx items.size 0 lo:Nat):Int)=0:=eq_of_beq q.1.1;have q2:sIx items.size items.size hi-sIx items.size 0 lo=items.size:=eq_of_beq q.2;exact hw ⟨by omega,by omega⟩
 show wpAny _ _ (if (((sIx items.size 0 lo:Nat):Int)==0&&(1:Int)==1&&(sIx items.size items.size hi-sIx items.size 0 lo)==items.size)=true then _ else _) _ _ s;rw[if_neg hno,qAM]
 first
  |exact uF (m:=Builtin.Tuple.tupleExact _) (wpAny_newObj_type (uG ⟨_,rfl,uG h⟩) htake)
  |exact uF (m:=Builtin.Tuple.tupleExact _) (wpAny_newObj_type (uF (uG (uG ⟨_,rfl,uG h⟩))) htake)
  |exact uF (uF (m:=Builtin.Tuple.tupleExact _) (wpAny_newObj_type (uG (uG ⟨_,rfl,uG h⟩)) htake))
  |exact uF (uF (m:=Builtin.Tuple.tupleExact _) (wpAny_newObj_type (uG ⟨_,rfl,uG h⟩) htake))
end
end _H
namespace _L
open PySem PySem.Spec PyProof.Rows
noncomputable abbrev TO:=St->Hp->(Option Int->Hp->Prop)->Prop
def PO(X:Cx)(e:Option Expr)(t:TO):Prop:=
 ∀(pins:List (Addr×Obj)) (s:Shared) (σ:St) (H:Hp) (Q:Option Int->Hp->Prop),Inv X pins σ H s->t σ H Q ->
  wpAny (model X.prog X.w) X.A (evalPart e X.env) (λu s'=>∃o H',Inv X pins σ H' s'/\IsPart u o/\Q o H') X.xe s
noncomputable def qBo:TO:=λ_ H Q=>Q none H
noncomputable def qEv(t:TE):TO:=λσ H Q=>t σ H λx H1=>∃i,x=.int i/\Q (some i) H1
theorem intsAre_of{ns:List Int}:∀{us:List Value},Vals (ns.map V.int) us->IntsAre us ns:=by
 induction ns with
 |nil=>intro us r;rw[List.map_nil]at r;cases r;exact .nil
 |cons n ns ih=>
  intro us r;rw[List.map_cons]at r;cases r with
  |cons r1 r2=>
   obtain⟨t,e⟩:=r1;subst e;exact .cons n t (ih r2)
section
variable{X:Cx}{e:Expr}{te:TE}{lo hi:Option Expr}{tl th:TO}{pos p2:Pos}
theorem po_none:PO X none qBo:=by
 intro pins s σ H Q I h;rw[evalPart_none];exact uG ⟨none,H,I,.none,h⟩
theorem po_some(h:PE X e te):PO X (some e) (qEv te):=by
 intro pins s σ H Q I hw;rw[evalPart_some];refine thn (h pins s σ H _ I hw) λu s1 ⟨x,H1,I1,r1,q1⟩=>?_;obtain⟨i,rfl,q⟩:=q1;obtain⟨t,rfl⟩:=r1;exact⟨some i,H1,I1,.int i t,q⟩
def SlR(X:Cx)(r:V->Option Int->Option Int->Hp->VK->Prop):Prop:=
 ∀(pins:List (Addr×Obj)) (s:Shared) (σ:St) (H:Hp) (x:V) (v vl vu:Value) (lo hi:Option Int) (sl:Addr) (Q:VK),Inv X pins σ H s->RelV x v->s.heap.IsSliceOf sl vl vu .none->IsPart vl lo->IsPart vu hi->r x lo hi H Q ->
  ∃T id,typeLookup (.type T) "__getitem__"=pure (some (.builtin id))/\s.TypeIs v T/\wpAny (model X.prog X.w) X.A (getItem v (.ref sl)) (EP X pins σ Q) X.xe s
theorem SlR.or{r r':V->Option Int->Option Int->Hp->VK->Prop}(h:SlR X r)(h':SlR X r'):SlR X (λx lo hi H Q=>r x lo hi H Q\/r' x lo hi H Q):=by
 intro pins s σ H x v vl vu lo hi sl Q I rx hs pl pu q;rcases q with q|q
 ·exact h pins s σ H x v vl vu lo hi sl Q I rx hs pl pu q
 ·exact h' pins s σ H x v vl vu lo hi sl Q I rx hs pl pu q
noncomputable def tSl(r:V->Option Int->Option Int->Hp->VK->Prop)(te:TE)(tl th:TO):TE:=λσ H Q=>te σ H λx H1=>tl σ H1 λl H2=>th σ H2 λu H3=>r x l u H3 Q
theorem pe_slice{r:V->Option Int->Option Int->Hp->VK->Prop}(hr:SlR X r)(he:PE X e te)(hl:PO X lo tl)(hu:PO X hi th):PE X (.Subscript e (.Slice lo hi none p2) pos) (tSl r te tl th):=by
 intro pins s σ H Q I h;refine Subscript_ (thn (he pins s σ H _ I h) λv s1 ⟨x,H1,I1,r1,q1⟩=>?_);refine wpAny_Slice (thn (hl pins s1 σ H1 _ I1 q1) λvl s2 ⟨l,H2,I2,pl,q2⟩=>thn (hu pins s2 σ H2 _ I2 q2) λvu s3 ⟨u,H3,I3,pu,q3⟩=>?_);rw[evalPart_none];refine uG ?_;have I4:Inv X pins σ H3 { s3 with heap:=s3.heap.push { cls:=.type "slice",data:=.fields #[vl,vu,.none] } }:=I3.kept (t':=s3.toks) λb ob q=>Heap.get?_push_of_some _ q;obtain⟨T,id,hT,ht,hg⟩:=hr pins { s3 with heap:=s3.heap.push { cls:=.type "slice",data:=.fields #[vl,vu,.none] } } σ H3 x v vl vu l u s3.heap.objs.size Q I4 r1 (Heap.IsSliceOf.new ..) pl pu q3;show wpAny (model X.prog X.w) X.A (subscriptTail e (.Slice lo hi none p2) v (.ref s3.heap.objs.size)) (EP X pins σ Q) X.xe { s3 with heap:=s3.heap.push { cls:=.type "slice",data:=.fields #[vl,vu,.none] } };exact tail_any (ops:=[.ref s3.heap.objs.size,v]) ht hT hg (by with_unfolding_all rfl)
noncomputable def cutV(xs:List V)(lo hi:Option Int):List V:=(xs.drop (_H.sIx xs.length 0 lo)).take (_H.sIx xs.length xs.length hi-_H.sIx xs.length 0 lo)
theorem QW(xs:List V)(lo hi:Option Int):(cutV xs lo hi).length<=xs.length:=by
 unfold cutV;rw[vZ,List.length_drop];omega
def qHp(K:PySem.W.Frag):V->Option Int->Option Int->Hp->VK->Prop:=λx lo hi H Q=>∃a xs,x=.ref a/\SqT K H a xs/\
 ¬ (_H.sIx xs.length 0 lo=0/\_H.sIx xs.length xs.length hi=xs.length)/\∀p,H p=none->Q (.ref p) (upd H p (.tup (cutV xs lo hi)))
theorem sl_tup:SlR X (qHp X.K):=by
 intro pins s σ H x v vl vu lo hi sl Q I rx hs pl pu h;obtain⟨a,xs,rfl,hx,hw,q⟩:=h;cases rx;obtain⟨its,r,ht,hz⟩:=I.tuple hx;have hlen:its.toArray.size=xs.length:=by rw[wO];exact r.length.symm
 refine⟨"tuple",_,PyProof.Rows.slot_tuple_getitem.lookup,ht.typeIs,?_⟩;refine _H.getItem_tuple_cut ht hs pl pu (by rw[hlen];exact hw) ?_ (by rw[hlen];exact hz);rw[hlen];refine⟨.ref s.heap.objs.size,_,I.laid (t':=s.toks) (o:=.tup (cutV xs lo hi)) (λb ob q=>Heap.get?_push_of_some _ q) (wM _) ?_,rfl,q _ (I.hok.fresh (wM _))⟩;exact⟨wS (QW xs lo hi) hz,_,(r.drop (_H.sIx xs.length 0 lo)).take (_H.sIx xs.length xs.length hi-_H.sIx xs.length 0 lo),IsTup.new _ _⟩
noncomputable def rCatT(K:PySem.W.Frag):R2:=λx y H Q=>∃a b xs ys,x=.ref a/\y=.ref b/\SqT K H a xs/\SqT K H b ys/\xs≠[]/\xs.length+ys.length<=sizeLine/\
 (ys=[]->Q (.ref a) H)/\(ys≠[]->∀p,H p=none->Q (.ref p) (upd H p (.tup (xs++ys))))
theorem Vals.nil_iff{xs:List V}{us:List Value}(r:Vals xs us):us=[]↔xs=[]:=by
 cases r with
 |nil=>simp
 |cons _ _=>simp
theorem op_catT:OpR X (binaryOp .Add) (rCatT X.K):=by
 intro pins s σ H x y v u Q I rx ry h;obtain⟨a,b,xs,ys,rfl,rfl,ha,hb,hx,hz,q1,q2⟩:=h;cases rx;cases ry;obtain⟨its,r1,p1,_⟩:=I.tuple ha;obtain⟨its2,r2,p2,_⟩:=I.tuple hb;refine _H.cat_tup p1 p2 (λz=>hx (r1.nil_iff.mp z)) (λz=>⟨.ref a,H,I,rfl,q1 (r2.nil_iff.mp z)⟩) (λz=>?_) (by rw[<-r1.length,<-r2.length];exact hz);refine⟨.ref s.heap.objs.size,_,I.laid (t':=s.toks) (o:=.tup (xs++ys)) (λb ob q=>Heap.get?_push_of_some _ q) (wM _) ?_,rfl,q2 (λw=>z (r2.nil_iff.mpr w)) _ (I.hok.fresh (wM _))⟩;exact⟨by rw[wV];exact hz,_,r1.append r2,IsTup.new _ _⟩
end
noncomputable def ixN(n:Nat)(i:Int):Option Nat:=if 0<=i then (if i<n then some i.toNat else none) else if -(n:Int)<=i then some (i+n).toNat else none
noncomputable def atI{α:Type}(xs:List α)(i:Int):Option α:=(ixN xs.length i).bind λj=>xs[j]?
theorem g9{n:Nat}{i:Int}{j:Nat}(h:ixN n i=some j):seqIndex? i n=some j/\j<n/\-(n:Int)<=i/\i<n:=by
 unfold ixN at h;by_cases h0:0<=i
 ·rw[if_pos h0]at h;by_cases h1:i<n
  ·rw[if_pos h1]at h;have e:i.toNat=j:=Option.some.inj h;exact⟨by rw[seqIndex_of h0 h1,e],by omega,by omega,h1⟩
  ·rw[if_neg h1]at h;cases h
 ·rw[if_neg h0]at h;by_cases h1:-(n:Int)<=i
  ·rw[if_pos h1]at h;have e:(i+n).toNat=j:=Option.some.inj h;exact⟨by rw[seqIndex_neg (by omega) h1,e],by omega,h1,by omega⟩
  ·rw[if_neg h1]at h;cases h
theorem X0{α:Type}{xs:List α}{i:Int}{v:α}(h:atI xs i=some v):∃j,seqIndex? i xs.length=some j/\xs[j]?=some v/\j<xs.length/\-(xs.length:Int)<=i/\i<xs.length:=by
 unfold atI at h;cases e:ixN xs.length i with
 |none=>rw[e]at h;cases h
 |some j=>
  rw[e]at h;obtain⟨h1,h2,h3,h4⟩:=g9 e;exact⟨j,h1,h,h2,h3,h4⟩
def PlainIx(b:Expr):Prop:=∀o i,subscripted b false o i=operate [o,i] (getItem o i)
def IxR(X:Cx)(r:R2):Prop:=
 ∀(value slice:Expr) (pins:List (Addr×Obj)) (s:Shared) (σ:St) (H:Hp) (x y:V) (v u:Value) (Q:VK),Inv X pins σ H s->RelV x v->RelV y u->r x y H Q ->
  subscripted slice false v u=operate [v,u] (getItem v u)->wpAny (model X.prog X.w) X.A (subscriptTail value slice v u) (EP X pins σ Q) X.xe s
def MtR(X:Cx)(id:String)(r:V->List V->Hp->VK->Prop):Prop:=
 ∀(pins:List (Addr×Obj)) (s:Shared) (σ:St) (H:Hp) (x:V) (xs:List V) (v:Value) (us:List Value) (Q:VK),Inv X pins σ H s->RelV x v->Vals xs us->r x xs H Q ->
  wpAny (model X.prog X.w) X.A (call (.builtin id) (v::us)) (EP X pins σ Q) X.xe s
section
variable{X:Cx}{a b:Expr}{ta tb:TE}{pos:Pos}
theorem IxR.or{r r':R2}(h:IxR X r)(h':IxR X r'):IxR X (λx y H Q=>r x y H Q\/r' x y H Q):=by
 intro value slice pins s σ H x y v u Q I rx ry q hs;rcases q with q|q
 ·exact h value slice pins s σ H x y v u Q I rx ry q hs
 ·exact h' value slice pins s σ H x y v u Q I rx ry q hs
theorem pe_ix{r:R2}(hr:IxR X r)(ha:PE X a ta)(hb:PE X b tb)(hs:PlainIx b):PE X (.Subscript a b pos) (tOp r ta tb):=by
 intro pins s σ H Q I h;exact Subscript_ (qg ha hb I h λv u s2 x y H2 I2 rx ry q=>hr a b pins s2 σ H2 x y v u Q I2 rx ry q (hs _ _))
noncomputable def qHL(K:PySem.W.Frag):R2:=λx y H Q=>∃p xs i v,x=.ref p/\y=.int i/\SqL K H p xs/\atI xs i=some v/\Q v H
noncomputable def qHZ(K:PySem.W.Frag):R2:=λx y H Q=>∃p xs i v,x=.ref p/\y=.int i/\SqT K H p xs/\atI xs i=some v/\Q v H
theorem ix_list:IxR X (qHL X.K):=by
 intro value slice pins s σ H x y v u Q I rx ry h hs;obtain⟨p,xs,i,z,rfl,rfl,hq,he,q⟩:=h;cases rx;obtain⟨t,rfl⟩:=ry;obtain⟨its,r,pl,hz⟩:=I.list hq;obtain⟨j,h1,h2,h3,h4,h5⟩:=X0 he;obtain⟨w,ew,rw'⟩:=r.get h2;have hl:=r.length;have hn:=K6;have fin:EP X pins σ Q w s:=⟨z,H,I,rw',q⟩
 by_cases h0:0<=i
 ·have hj:i.toNat=j:=by
   rw[seqIndex_of h0 h5]at h1;exact Option.some.inj h1
  exact item_listR pl.isList h0 (by omega) (by rw[hj];simpa using ew) fin hs
 ·have hj:(i+(its.toArray.size:Int)).toNat=j:=by
   rw[seqIndex_neg (by omega) h4]at h1;rw[wO,<-hl];exact Option.some.inj h1
  exact subscriptTail_builtinR (x:=w) pl.isList.typeIs slot_list_getitem.lookup
   (wpAny_getItem_list_neg (Q:=λr s'=>r=w/\EP X pins σ Q r s') pl.isList (by omega) (by rw[wO]<;>omega) (by omega) (by rw[hj];simpa using ew) ⟨rfl,fin⟩) hs
theorem ix_tup:IxR X (qHZ X.K):=by
 intro value slice pins s σ H x y v u Q I rx ry h hs;obtain⟨p,xs,i,z,rfl,rfl,hq,he,q⟩:=h;cases rx;obtain⟨t,rfl⟩:=ry;obtain⟨its,r,pl,hz⟩:=I.tuple hq;obtain⟨j,h1,h2,h3,h4,h5⟩:=X0 he;obtain⟨w,ew,rw'⟩:=r.get h2;have hl:=r.length;have hn:=K6;have fin:EP X pins σ Q w s:=⟨z,H,I,rw',q⟩
 exact subscriptTail_builtinR (x:=w) pl.typeIs slot_tuple_getitem.lookup
  (getItem_tuple (j:=j) (Q:=λr s'=>r=w/\EP X pins σ Q r s') pl (by omega) (by omega) (by rw[wO,<-hl];exact h1) (by simpa using ew) ⟨rfl,fin⟩) hs
theorem L9(its:List Value)(n j:Nat)(u:Value):Obj.mapSeq (·.setIfInBounds j u) { cls:=.type "list",data:=.seq its.toArray n }={ cls:=.type "list",data:=.seq (its.set j u).toArray n }:=by
 simp[Obj.mapSeq]
theorem Inv.lst{pins:List (Addr×Obj)}{σ:St}{H:Hp}{s:Shared}{p:Addr}{xs:List V}(I:Inv X pins σ H s)(h:H p=some (.lst xs)):
  ∃(its:List Value) (n:Nat),Vals xs its/\s.heap.get? p=some { cls:=.type "list",data:=.seq its.toArray n }/\xs.length<=sizeLine:=by
 obtain⟨z,its,n,r,e⟩:=I.hok p _ h;exact⟨its,n,r,e,z⟩
theorem Inv.lstUpd{pins:List (Addr×Obj)}{σ:St}{H:Hp}{s:Shared}{p:Addr}{xs ys:List V}{its its':List Value}{n n':Nat}{f:Obj->Obj}(I:Inv X pins σ H s)(h:H p=some (.lst xs))
  (ho:s.heap.get? p=some { cls:=.type "list",data:=.seq its.toArray n }) (hf:f { cls:=.type "list",data:=.seq its.toArray n }={ cls:=.type "list",data:=.seq its'.toArray n' }) (r:Vals ys its') (hz:ys.length<=sizeLine) (t:Nat):
  Inv X pins σ (upd H p (.lst ys)) { s with heap:=s.heap.update p f,toks:=t }:=by
 have e:(s.heap.update p f).get? p=some { cls:=.type "list",data:=.seq its'.toArray n' }:=by
  rw[Heap.get?_update_self f ho (by rw[hf]<;>rfl),hf]
 refine I.write (x:=p) (e:=p) (by rw[h];trivial) (.inl rfl) (λb u hb q=>(Heap.get?_update_other _ _ (Ne.symm hb)).trans q) ⟨_,e⟩ ?_;exact⟨hz,its',n',r,e⟩
def rSetL:V->V->V->Hp->(Hp->Prop)->Prop:=λo i v H Q=>∃p xs k j,o=.ref p/\i=.int k/\H p=some (.lst xs)/\ixN xs.length k=some j/\Q (upd H p (.lst (xs.set j v)))
theorem set_list:PSet X rSetL:=by
 intro pins s σ H o i v ov iv u Q I ro ri rv h;obtain⟨p,xs,k,j,rfl,rfl,hp,hj,q⟩:=h;cases ro;obtain⟨t,rfl⟩:=ri;obtain⟨its,n,r,ho,hz⟩:=I.lst hp;obtain⟨h1,h2,h3,h4⟩:=g9 hj;have hl:=r.length;have hn:=K6;have I':Inv X pins σ (upd H p (.lst (xs.set j v))) { s with heap:=s.heap.update p (Obj.mapSeq (·.setIfInBounds j u)) }:=
  I.lstUpd hp ho (L9 its n j u) (r.set rv j) (by rw[List.length_set];exact hz) s.toks
 by_cases h0:0<=k
 ·have hk:k.toNat=j:=by
   rw[seqIndex_of h0 h4]at h1;exact Option.some.inj h1
  exact PySem.W.ki_setAt ho h0 (by omega) (by rw[wO,<-hl];exact h4) (by rw[hk];exact⟨_,I',q⟩)
 ·have hk:(k+(its.toArray.size:Int)).toNat=j:=by
   rw[seqIndex_neg (by omega) h3]at h1;rw[wO,<-hl];exact Option.some.inj h1
  exact PySem.W.ki_setBack ho (by omega) (by rw[wO,<-hl];exact h3) (by omega) (by rw[hk];exact⟨_,I',q⟩)
theorem JY(lo hi:Option Int)(n:Nat):(sliceBounds lo hi none n).1=((_H.sIx n 0 lo:Nat):Int)/\(sliceBounds lo hi none n).2.1=((_H.sIx n n hi:Nat):Int)/\(sliceBounds lo hi none n).2.2=1:=by
 refine⟨?_,?_,rfl⟩
 ·cases lo with
  |none=>simp[sliceBounds,_H.sIx]
  |some i=>
   simp only[sliceBounds,_H.sIx,Option.getD_none,show (1:Int)>0 by decide,if_true];by_cases h:i<0
   ·simp only[h,if_true]<;>omega
   ·simp only[h,if_false]<;>omega
 ·cases hi with
  |none=>simp[sliceBounds,_H.sIx]
  |some i=>
   simp only[sliceBounds,_H.sIx,Option.getD_none,show (1:Int)>0 by decide,if_true];by_cases h:i<0
   ·simp only[h,if_true]<;>omega
   ·simp only[h,if_false]<;>omega
theorem Zn(its:List Value)(lo hi:Option Int):slicePick its.toArray lo hi none=((its.drop (_H.sIx its.length 0 lo)).take (_H.sIx its.length its.length hi-_H.sIx its.length 0 lo)).toArray:=by
 obtain⟨h1,h2,h3⟩:=JY lo hi its.toArray.size;unfold slicePick;rw[h1,h2,h3];simp only[sliceRange_one,pick_run,wO]<;>rfl
def qHm(K:PySem.W.Frag):V->Option Int->Option Int->Hp->VK->Prop:=λx lo hi H Q=>∃a xs,x=.ref a/\SqL K H a xs/\∀p,H p=none->Q (.ref p) (upd H p (.lst (cutV xs lo hi)))
theorem sl_list:SlR X (qHm X.K):=by
 intro pins s σ H x v vl vu lo hi sl Q I rx hs pl pu h;obtain⟨a,xs,rfl,hx,q⟩:=h;cases rx;obtain⟨its,r,ht,hz⟩:=I.list hx;have hlen:=r.length;refine⟨"list",_,slot_list_getitem.lookup,ht.isList.typeIs,?_⟩;refine wpAny_getItem_list_slice ht.isList hs pl pu .none (by simp) ?_ (by rw[wO]<;>omega);rw[Zn,<-hlen];refine⟨.ref s.heap.objs.size,_,I.laid (t':=s.toks) (o:=.lst (cutV xs lo hi)) (λb ob q=>Heap.get?_push_of_some _ q) (wM _) ?_,rfl,q _ (I.hok.fresh (wM _))⟩;exact⟨wS (QW xs lo hi) hz,_,0,(r.drop (_H.sIx xs.length 0 lo)).take (_H.sIx xs.length xs.length hi-_H.sIx xs.length 0 lo),Heap.get?_push_size _ rfl⟩
noncomputable def flatV:V->Bool
 | .non=>true
 | .bl _=>true
 | .int _=>true
 | .str _=>true
 |_=>false
noncomputable def eqV:V->V->Bool
 | .non,.non=>true
 | .bl a,.bl b=>a==b
 | .bl a,.int b=>(if a then 1 else 0)==b
 | .int a,.bl b=>a==(if b then 1 else 0)
 | .int a,.int b=>a==b
 | .str a,.str b=>a==b
 |_,_=>false
theorem qDV{A:Around}{s:Shared}{y x:V}{u v:Value}(ry:RelV y u)(rx:RelV x v)(fy:flatV y=true)(fx:flatV x=true):SeqAt.EqAt A s u v (eqV y x):=by
 cases y with
 |non=>
  cases ry;cases x with
  |non=>cases rx;exact SeqAt.EqAt.same _
  |bl b=>cases rx;exact SeqAt.EqAt.none_bool b
  |int b=>obtain⟨t,rfl⟩:=rx;exact SeqAt.EqAt.none_int b t
  |str b=>obtain⟨t,rfl⟩:=rx;exact SeqAt.EqAt.none_str b t
  |_=>exact absurd (show false=true from fx) vB
 |bl a=>
  cases ry;cases x with
  |non=>cases rx;exact SeqAt.EqAt.bool_none a
  |bl b=>cases rx;exact SeqAt.EqAt.bool_bool a b
  |int b=>obtain⟨t,rfl⟩:=rx;exact SeqAt.EqAt.bool_int a b t
  |str b=>obtain⟨t,rfl⟩:=rx;exact SeqAt.EqAt.bool_str a b t
  |_=>exact absurd (show false=true from fx) vB
 |int a=>
  obtain⟨t',rfl⟩:=ry;cases x with
  |non=>cases rx;exact SeqAt.EqAt.int_none a t'
  |bl b=>cases rx;exact SeqAt.EqAt.int_bool a t' b
  |int b=>obtain⟨t,rfl⟩:=rx;exact SeqAt.EqAt.int_int a t' b t
  |str b=>obtain⟨t,rfl⟩:=rx;exact SeqAt.EqAt.int_str a t' b t
  |_=>exact absurd (show false=true from fx) vB
 |str a=>
  obtain⟨t',rfl⟩:=ry;cases x with
  |non=>cases rx;exact SeqAt.EqAt.str_none a t'
  |bl b=>cases rx;exact SeqAt.EqAt.str_bool a t' b
  |int b=>obtain⟨t,rfl⟩:=rx;exact SeqAt.EqAt.str_int a t' b t
  |str b=>obtain⟨t,rfl⟩:=rx;exact SeqAt.EqAt.str_str a t' b t
  |_=>exact absurd (show false=true from fx) vB
 |_=>exact absurd (show false=true from fy) vB
noncomputable def eqU(x:V)(u:Value):Bool:=match u with
 | .none=>eqV .non x
 | .bool b=>eqV (.bl b) x
 | .int i _=>eqV (.int i) x
 | .str z _=>eqV (.str z) x
 |_=>false
theorem C8{x y:V}{u:Value}(r:RelV y u)(f:flatV y=true):eqU x u=eqV y x:=by
 cases y with
 |non=>cases r;rfl
 |bl b=>cases r;rfl
 |int i=>obtain⟨t,rfl⟩:=r;rfl
 |str z=>obtain⟨t,rfl⟩:=r;rfl
 |_=>exact absurd (show false=true from f) vB
theorem Qd{x:V}:∀{xs:List V}{us:List Value},Vals xs us->xs.all flatV=true->us.any (eqU x)=xs.any λy=>eqV y x
 |_,_,.nil,_=>rfl
 |y::xs,u::us,.cons r t,f=>by
  rw[List.all_cons,wE]at f;rw[List.any_cons,List.any_cons,C8 r f.1,Qd t f.2]
theorem zp{A:Around}{s:Shared}{x:V}{v:Value}(rx:RelV x v)(fx:flatV x=true):∀{xs:List V}{us:List Value},Vals xs us->xs.all flatV=true->∀u∈us,SeqAt.EqAt A s u v (eqU x u)
 |_,_,.nil,_=>λu hu=>by cases hu
 |y::xs,u::us,.cons r t,f=>λu' hu=>by
  rw[List.all_cons,wE]at f;rcases wJ.mp hu with rfl|hu
  ·rw[C8 r f.1];exact qDV r rx f.1 fx
  ·exact zp rx fx t f.2 u' hu
noncomputable def inV(x:V)(xs:List V):Bool:=xs.any λy=>eqV y x
noncomputable def rIn(K:PySem.W.Frag)(neg:Bool):R2:=λx y H Q=>∃p xs,y=.ref p/\(SqL K H p xs\/SqT K H p xs)/\flatV x=true/\xs.all flatV=true/\Q (.bl (if neg then !inV x xs else inV x xs)) H
theorem op_in_seq:OpR X (compareOp .In) (rIn X.K false):=by
 intro pins s σ H x y v u Q I rx ry h;obtain⟨p,xs,rfl,hq,fx,fs,q⟩:=h;cases ry;rcases hq with hq|hq
 ·obtain⟨its,r,pl,hz⟩:=I.list hq;refine SeqAt.in_listAt (eqU x) pl.isList (λw hw=>zp rx fx r fs w (by simpa using hw)) ⟨.bl _,H,I,rfl,?_⟩;rw[show its.toArray.any (eqU x)=its.any (eqU x) by simp,Qd r fs];exact q
 ·obtain⟨its,r,pl,hz⟩:=I.tuple hq;refine SeqAt.in_tupleAt (eqU x) pl (λw hw=>zp rx fx r fs w (by simpa using hw)) ⟨.bl _,H,I,rfl,?_⟩;rw[show its.toArray.any (eqU x)=its.any (eqU x) by simp,Qd r fs];exact q
theorem op_notIn_seq:OpR X (compareOp .NotIn) (rIn X.K true):=by
 intro pins s σ H x y v u Q I rx ry h;obtain⟨p,xs,rfl,hq,fx,fs,q⟩:=h;cases ry;rcases hq with hq|hq
 ·obtain⟨its,r,pl,hz⟩:=I.list hq;refine SeqAt.notIn_listAt (eqU x) pl.isList (λw hw=>zp rx fx r fs w (by simpa using hw)) ⟨.bl _,H,I,rfl,?_⟩;rw[show its.toArray.any (eqU x)=its.any (eqU x) by simp,Qd r fs];exact q
 ·obtain⟨its,r,pl,hz⟩:=I.tuple hq;refine SeqAt.notIn_tupleAt (eqU x) pl (λw hw=>zp rx fx r fs w (by simpa using hw)) ⟨.bl _,H,I,rfl,?_⟩;rw[show its.toArray.any (eqU x)=its.any (eqU x) by simp,Qd r fs];exact q
theorem call_len_seq:zG X (.builtin "len") (λxs H Q=>∃p ys,xs=[.ref p]/\(SqL X.K H p ys\/SqT X.K H p ys)/\Q (.int ys.length) H):=by
 intro pins s σ H xs us Q I r h;obtain⟨p,ys,rfl,hq,q⟩:=h;obtain⟨u,rfl,rx⟩:=vals1 r;cases rx;have hn:=K6;rcases hq with hq|hq
 ·obtain⟨its,r',pl,hz⟩:=I.list hq;have hlen:=r'.length;exact Calls.call_len_list pl.isList (by simp only[wO]<;>omega) ⟨.int ys.length,H,I.tok _,⟨s.toks+1,by rw[wO,hlen]⟩,q⟩
 ·obtain⟨its,r',pl,hz⟩:=I.tuple hq;have hlen:=r'.length;exact len_tuple pl (by simp only[wO]<;>omega) ⟨.int ys.length,H,I.tok _,⟨s.toks+1,by rw[wO,hlen]⟩,q⟩
theorem call_list_of:zG X (.type "list") (λxs H Q=>∃p ys,xs=[.ref p]/\(SqL X.K H p ys\/SqT X.K H p ys)/\∀l,H l=none->Q (.ref l) (upd H l (.lst ys))):=by
 intro pins s σ H xs us Q I r h;obtain⟨p,ys,rfl,hq,q⟩:=h;obtain⟨u,rfl,rx⟩:=vals1 r;cases rx;have fin:∀(its:List Value),Vals ys its->ys.length<=sizeLine->∀(h':Heap) (c':Nat),(∀b o',s.heap.get? b=some o'->h'.get? b=some o') ->
   h'.get? s.heap.objs.size=some { cls:=.type "list",dict:=none,data:=.seq its.toArray c',slots:=#[] }->EP X pins σ Q (.ref s.heap.objs.size) { s with heap:=h' }:=λits r' hz h' c' kp e=>
  ⟨.ref s.heap.objs.size,_,I.laid (t':=s.toks) kp (wM _) (show ObjOk X.prog X.w _ h' _ (.lst ys) from⟨hz,its,c',r',e⟩),rfl,q _ (I.hok.fresh (wM _))⟩
 rcases hq with hq|hq
 ·obtain⟨its,r',pl,hz⟩:=I.list hq;have hlen:=r'.length;obtain⟨o,ho,hc,n,hd⟩:=pl.isList;exact call_list_seq p (.inl rfl) ho hc hd (λh' c' kp e=>fin its r' hz h' c' kp e) (by simp only[wO]<;>omega)
 ·obtain⟨its,r',pl,hz⟩:=I.tuple hq;have hlen:=r'.length;obtain⟨o,ho,hc,n,hd⟩:=pl;exact call_list_seq p (.inr rfl) ho hc hd (λh' c' kp e=>fin its r' hz h' c' kp e) (by simp only[wO]<;>omega)
def tyV(K:PySem.W.Frag)(T:String)(x:V)(H:Hp):Prop:=match x with
 | .str _=>T="str"
 | .int _=>T="int"
 | .ref p=>(T="list"/\∃xs,SqL K H p xs)\/(T="tuple"/\∃o,K.lookup p=some o/\o.cls=.type "tuple"/\o.dict=none)\/
   (T="dict"/\((∃kvs,H p=some (.dK kvs))\/∃kvs,H p=some (.dT kvs)))\/(T="set"/\∃S n,H p=some (.set S n))
 |_=>False
theorem qAS{pins:List (Addr×Obj)}{σ:St}{H:Hp}{s:Shared}{T:String}{x:V}{v:Value}(I:Inv X pins σ H s)(r:RelV x v)(ty:tyV X.K T x H):
  s.TypeIs v T/\∀a,v=.ref a->∃ob,s.heap.get? a=some ob/\ob.dict=none:=by
 cases x with
 |str z=>
  obtain⟨t,rfl⟩:=r;cases (show T="str" from ty);exact⟨typeIs_str s z t,λ_ e=>nomatch e⟩
 |int i=>
  obtain⟨t,rfl⟩:=r;cases (show T="int" from ty);exact⟨typeIs_int s i t,λ_ e=>nomatch e⟩
 |ref p=>
  cases r;rcases ty with⟨rfl,xs,hq⟩|⟨rfl,o,hk,hc,hd⟩|⟨rfl,hk⟩|⟨rfl,S,n,hk⟩
  ·obtain⟨its,_,pl,_⟩:=I.list hq;refine⟨pl.isList.typeIs,λa e=>?_⟩;cases e;obtain⟨o,n,e,c,hd,_⟩:=pl;exact⟨o,e,hd⟩
  ·refine⟨⟨o,I.kIn p o hk,hc⟩,λa e=>?_⟩;cases e;exact⟨o,I.kIn _ o hk,hd⟩
  ·have z:∃o,s.heap.get? p=some o/\o.ExactDict:=by
    rcases hk with⟨kvs,hk⟩|⟨kvs,hk⟩
    ·obtain⟨_,_,_,_,o,_,_,e,ex,_⟩:=I.hok p _ hk;exact⟨o,e,ex⟩
    ·obtain⟨_,_,_,_,o,_,_,e,ex,_⟩:=I.hok p _ hk;exact⟨o,e,ex⟩
   obtain⟨o,e,ex⟩:=z;refine⟨⟨o,e,ex.1⟩,λa e2=>?_⟩;cases e2;exact⟨o,e,ex.2.1⟩
  ·obtain⟨o,_,_,_,e,ex,_⟩:=I.hok p _ hk;refine⟨⟨o,e,ex.1⟩,λa e2=>?_⟩;cases e2;exact⟨o,e,ex.2.1⟩
 |_=>exact False.elim ty
noncomputable def qHJ(K:PySem.W.Frag)(T:String)(r:V->List V->Hp->VK->Prop)(to:TE):TE:=λσ H Q=>to σ H λx H1=>tyV K T x H1/\r x [] H1 Q
noncomputable def tBM(K:PySem.W.Frag)(T:String)(r:V->List V->Hp->VK->Prop)(to:TE)(t:TA):TE:=λσ H Q=>to σ H λx H1=>tyV K T x H1/\t σ H1 λxs H2=>r x xs H2 Q
variable{o e:Expr}{es:List Expr}{to:TE}{t:TA}{name:Str}{apos cpos:Pos}{T id:String}{r:V->List V->Hp->VK->Prop}
theorem pe_bm0(pa:PlainAttrs T)(slot:Slot T name id)(hty:typeOf (.builtin id)=pure (.type "method_descriptor"))(hm:MtR X id r)(ho:PE X o to)
  (hbase:attributeBase o name X.env (eval o X.env)=eval o X.env:=by rfl) (hline:(apos.endLine==cpos.line)=true:=by rfl):PE X (.Call (.Attribute o name apos) [] [] cpos) (qHJ X.K T r to):=by
 intro pins s σ H Q I h;refine wpAny_Call_method0_late hbase hline (thn (ho pins s σ H _ I h) λv s1 ⟨x,H1,I1,r1,ty,q1⟩=>?_);obtain⟨h1,h2⟩:=qAS I1 r1 ty;exact⟨T,id,pa,slot,hty,h1,h2,Calls.callWith_builtin rfl (PySem.evalArgs_none (hm pins s1 σ H1 x [] v [] Q I1 r1 .nil q1))⟩
theorem pe_bm(pa:PlainAttrs T)(slot:Slot T name id)(hty:typeOf (.builtin id)=pure (.type "method_descriptor"))(hm:MtR X id r)(ho:PE X o to)(ha:PA X (e::es) t)
  (hbase:attributeBase o name X.env (eval o X.env)=eval o X.env:=by rfl)
  (hfew:((backTo cpos (starEach (e::es) X.env)).all (λx=>!x.1)&&(backToKw cpos (keywordEach [] X.env)).all (λx=>x.1.isSome)
   && decide ((e::es).length+([]:List Keyword).length+(if ([]:List Keyword).isEmpty then 0 else 1)<30))=true:=by rfl)
  (hline:(apos.endLine==cpos.line)=true:=by rfl) (hs:starEach (e::es) X.env=(false,eval e X.env)::starEach es X.env:=by rfl) (hplain:(backTo cpos (starEach es X.env)).any (·.1)=false:=by rfl):
  PE X (.Call (.Attribute o name apos) (e::es) [] cpos) (tBM X.K T r to t):=by
 intro pins s σ H Q I h;refine wpAny_Call_method_late hbase hfew hline rfl (thn (ho pins s σ H _ I h) λv s1 ⟨x,H1,I1,r1,ty,q1⟩=>?_);obtain⟨h1,h2⟩:=qAS I1 r1 ty;refine⟨T,id,pa,slot,hty,h1,h2,?_⟩;have hA:=ha cpos pins s1 σ H1 _ I1 q1;rw[hs]at hA ⊢;refine Calls.callWith_builtin (by show (false||(backTo cpos (starEach es X.env)).any (·.1))=false;rw[hplain]<;>rfl) (Calls.evalArgs_plain ?_);exact thn hA λus s2 ⟨vs,H2,I2,r2,q2⟩=>hm pins s2 σ H2 x vs v us Q I2 r1 r2 q2
end
def MtM(X:Cx)(id:String)(r:V->List V->Hp->VK->Prop):Prop:=
 ∀(pins:List (Addr×Obj)) (s:Shared) (σ:St) (H:Hp) (x:V) (xs:List V) (v:Value) (us:List Value) (Q:VK),Inv X pins σ H s->RelV x v->Vals xs us->r x xs H Q ->
  wpAny (model X.prog X.w) X.A (call (.builtin id) (v::us)) (EP X pins σ Q) X.xe s
theorem Vals.one:∀{x:V}{us:List Value},Vals [x] us->∃u,us=[u]/\RelV x u
 |_,_,.cons r .nil=>⟨_,rfl,r⟩
theorem Vals.zero:∀{us:List Value},Vals [] us->us=[]
 |_,.nil=>rfl
theorem Vals.rep{xs:List V}{us:List Value}(h:Vals xs us):∀k:Nat,Vals (List.replicate k xs).flatten (List.replicate k us).flatten
 | 0=>.nil
 |k+1=>by
  rw[List.replicate_succ,List.replicate_succ,List.flatten_cons,List.flatten_cons];exact Vals.append h (Vals.rep h k)
theorem JO(its:List Value):∀(k:Nat) (acc:List Value),
  List.foldl (λx1 x2=>x1++x2) acc.toArray (List.replicate k its.toArray)=(acc++(List.replicate k its).flatten).toArray
 | 0,acc=>by simp
 |k+1,acc=>by
  have e:acc.toArray++its.toArray=(acc++its).toArray:=by simp
  have e2:(acc++its)++(List.replicate k its).flatten=acc++(List.replicate (k+1) its).flatten:=by
   rw[List.replicate_succ,List.flatten_cons,wm]
  rw[<-e2,<-JO its k (acc++its),<-e,List.replicate_succ,List.foldl_cons]
section
variable{X:Cx}{pins:List (Addr×Obj)}{σ:St}{H:Hp}{s:Shared}{l b:Addr}{xs ys zs:List V}
theorem Inv.lset{its its':List Value}{n:Nat}{f:Array Value->Array Value}{t':Nat}(I:Inv X pins σ H s)(hH:H l=some (.lst xs))
  (e:s.heap.get? l=some { cls:=.type "list",data:=.seq its.toArray n }) (hf:f its.toArray=its'.toArray) (hv:Vals ys its') (hz:ys.length<=sizeLine):
  Inv X pins σ (upd H l (.lst ys)) { s with heap:=s.heap.update l (Obj.mapSeq f),toks:=t' }:=by
 have q:=PySem.IsL.update e f;rw[hf]at q;refine I.write (x:=l) (e:=l) (by rw[hH];exact trivial) (.inl rfl) (λb' u hb hu=>(Heap.get?_update_other s.heap (Obj.mapSeq f) (Ne.symm hb)).trans hu) ⟨_,q⟩ ?_;exact⟨hz,its',_,hv,q⟩
theorem Inv.lnew{its:List Value}{t':Nat}(I:Inv X pins σ H s)(hv:Vals ys its)(hz:ys.length<=sizeLine):
  Inv X pins σ (upd H s.heap.objs.size (.lst ys)) { s with heap:=s.heap.push { cls:=.type "list",data:=.seq its.toArray },toks:=t' }:=
 I.laid (λ_ _ q=>Heap.get?_push_of_some _ q) (wM _) ⟨hz,its,0,hv,Heap.get?_push_size _ rfl⟩
theorem Inv.fresh(I:Inv X pins σ H s):H s.heap.objs.size=none:=I.hok.fresh (wM _)
theorem Inv.lstM(I:Inv X pins σ H s)(hH:H l=some (.lst xs)):xs.length<=sizeLine/\∃(its:List Value) (n:Nat),Vals xs its/\xs.length=its.length/\s.heap.get? l=some { cls:=.type "list",data:=.seq its.toArray n }:=by
 obtain⟨z,its,n,r,e⟩:=I.hok l _ hH;exact⟨z,its,n,r,r.length,e⟩
theorem u7{n:Nat}(h:n<=sizeLine):Builtin.List.listTooLong n=false:=by
 unfold Builtin.List.listTooLong;exact uH (by omega)
end
section
variable{X:Cx}
def qCb:V->List V->Hp->VK->Prop:=λx vs H Q=>∃l xs y,x=.ref l/\vs=[y]/\H l=some (.lst xs)/\xs.length<sizeLine/\Q .non (upd H l (.lst (xs++[y])))
theorem mt_append:MtM X "list.append" qCb:=by
 intro pins s σ H x vs v us Q I rx rv h;obtain⟨l,xs,y,rfl,rfl,hH,hz,q⟩:=h;cases rx;obtain⟨u,rfl,ru⟩:=rv.one;obtain⟨z,its,n,r,hl,e⟩:=I.lstM hH;refine call_meets F.slot_list_append ⟨_,e,rfl⟩ F.entry_list_append (F.args_list_append_2 _ _) (PySem.list_append l its.toArray n u (by rw[wO];omega)) ⟨e,?_⟩;refine⟨.non,_,I.lset (its':=its++[u]) hH e (by simp) (r.append (.cons ru .nil)) ?_,rfl,q⟩;rw[wV,List.length_singleton];omega
noncomputable def rCat:R2:=λx y H Q=>∃l b xs zs,x=.ref l/\y=.ref b/\H l=some (.lst xs)/\H b=some (.lst zs)/\xs.length+zs.length<=sizeLine/\∀p,H p=none->Q (.ref p) (upd H p (.lst (xs++zs)))
theorem op_cat:OpR X (binaryOp .Add) rCat:=by
 intro pins s σ H x y v u Q I rx ry h;obtain⟨l,b,xs,zs,rfl,rfl,hH,hB,hz,q⟩:=h;cases rx;cases ry;obtain⟨z,its,n,r,hl,e⟩:=I.lstM hH;obtain⟨z2,its2,n2,r2,hl2,e2⟩:=I.lstM hB;refine PySem.P.add_list e e2 ?_ (by rw[wO,wO];omega);have ea:its.toArray++its2.toArray=(its++its2).toArray:=by simp
 rw[ea];exact⟨.ref _,_,I.lnew (t':=s.toks) (r.append r2) (by rw[wV];omega),rfl,q _ I.fresh⟩
noncomputable def rRep:R2:=λx y H Q=>∃l k xs,x=.ref l/\y=.int k/\H l=some (.lst xs)/\-(2 ^ 63)<=k/\k<2 ^ 63/\xs.length*k.toNat<=sizeLine/\
 ∀p,H p=none->Q (.ref p) (upd H p (.lst (List.replicate k.toNat xs).flatten))
theorem qCW{α:Type}(xs:List α)(k:Nat):(List.replicate k xs).flatten.length=k*xs.length:=by
 induction k with
 |zero=>simp
 |succ k ih=>rw[List.replicate_succ,List.flatten_cons,wV,ih,Nat.succ_mul,Nat.add_comm]
theorem op_rep:OpR X (binaryOp .Mult) rRep:=by
 intro pins s σ H x y v u Q I rx ry h;obtain⟨l,k,xs,rfl,rfl,hH,h1,h2,hz,q⟩:=h;cases rx;obtain⟨t,rfl⟩:=ry;obtain⟨z,its,n,r,hl,e⟩:=I.lstM hH;have hlen:its.toArray.size*k.toNat<=sizeLine:=by rw[wO,<-hl];exact hz
 have hcap:¬ its.toArray.size*k.toNat>(2 ^ 63-1) / 8:=by
  have:(sizeLine:Nat)<=(2 ^ 63-1) / 8:=by decide
  omega
 have hfit:¬ (!Builtin.List.listFitsIndex k)=true:=by
  rw[fitsIndex_both h1 h2];exact vB
 have hlong:¬ Builtin.List.listTooLong (its.toArray.size*k.toNat)=true:=by
  rw[u7 hlen];exact vB
 have hnew:List.foldl (λx1 x2=>x1++x2) #[] (List.replicate (if its.toArray.isEmpty=true then 0 else k.toNat) its.toArray)=(List.replicate k.toNat its).flatten.toArray:=by
  have f0:∀m:Nat,List.foldl (λx1 x2=>x1++x2) #[] (List.replicate m its.toArray)=(List.replicate m its).flatten.toArray:=λm=>by
   have:=JO its m [];rw[List.nil_append]at this;exact this
  rw[f0];cases its with
  |nil=>simp
  |cons a r'=>rw[if_neg (by simp)]
 refine wpAny_binaryOp_repeat_ref (T:="list") (U:="int") (by decide) ⟨_,e,rfl⟩ (λs'=>typeIs_int s' k t) noFill_list_mul F.fills_int_mul F.slot_int_rmul repeat_list F.slot_int_index.lookup
  (call_meets F.slot_int_rmul (typeIs_int s k t) F.entry_int_rmul (F.args_int_rmul_2 _ _) (int___rmul___int_list k t l its.toArray n)
   ⟨e,rfl,⟨_,e,rfl⟩,call_meets F.slot_list_mul ⟨_,e,rfl⟩ F.entry_list_mul (F.args_list_mul_2 _ _) (AutoListH.list___mul___list_int_3 l its.toArray n k t hfit hcap hlong) ⟨e,?_⟩⟩)
 rw[hnew];exact⟨.ref _,_,I.lnew (t':=s.toks) (r.rep k.toNat) (by rw[qCW,uD];exact hz),rfl,q _ I.fresh⟩
end
end _L
namespace Att
open PySem PySem.W PySem.Calls PyProof.Rows
theorem Qh{P:Params}{h:Heap}:∀(ns:List Int) (vs:List Value),WellAll P h vs (ns.map WData.int)->IntsAre vs ns:=by
 intro ns
 induction ns with
 |nil=>
  intro vs w;rw[List.map_nil]at w;cases w;exact .nil
 |cons n ns ih=>
  intro vs w;rw[List.map_cons]at w;cases w with
  |cons a b=>
   cases a;exact .cons _ _ (ih _ b)
theorem c9{l:OpenLaw}{n:Nat}(hn:l.most=some n){P:Params}{h:Heap}{args:List WData}{vals:List Value}
  (hpre:l.row.toRowW.claim.pre args=true) (hwl:WellAll P h vals args):
  ∃a vs ns,vals=[Value.ref a]/\args=[WData.list (ns.map WData.int)]/\h.get? a=some { cls:=.type "list",data:=.seq vs.toArray }/\IntsAre vs ns/\ns.length<=n:=by
 have hsh:WShape.hasAll [] args [.list .int]=true:=(pre_splitW hpre).1;have hc:l.pre.holds [] { args:=args }=true:=(pre_splitW hpre).2;obtain⟨d,r,rfl,h1,h2⟩:=hasAllW_cons hsh;obtain rfl:=hasAllW_nil h2;obtain⟨xs,rfl,h3⟩:=hasW_list h1;obtain⟨ns,rfl⟩:=items_int h3;have hlen:ns.length<=n:=by
  unfold OpenLaw.pre at hc;have h4:(WTm.not (.lt (.lit (.int (n:Int))) (.len (.arg 0)))).holds [] { args:=[.list (ns.map .int)] }=true:=by
   have h4:=(holds_andW hc).1;rw[hn]at h4;exact h4
  have h5:=condW_of h4 (w_not (w_lt w_lit (w_len_list (w_arg rfl))));rw[wK]at h5;refine Nat.le_of_not_lt λq=>?_;have q':(n:Int)<((ns.length:Nat):Int):=by omega
  first
   | (rw[uI q']at h5;exact absurd h5 (by decide))
   | (simp at h5;omega)
 cases hwl with
 |cons w1 w2=>
  cases w2;cases w1 with
  |list ho hall=>exact⟨_,_,ns,rfl,rfl,ho,Qh ns _ hall,hlen⟩
theorem U0(l:OpenLaw)(args:List WData):l.row.toRowW.claim.post args (.bool true) args=true:=
 postW_of (r:=l.row.toRowW) (X:=(true==true))
  (show WShape.has [] (.bool true) .bool=true by first|rfl|decide|simp[WShape.has,WShape.arms,WShape.armsAll])
  (show (WTm.eq .res (.lit (.bool true))).value [] { args:=args,res:=some (.bool true),after:=args }=some (.bool (true==true)) from w_eq_bool (w_res rfl) w_lit) rfl
theorem attach_call{l:OpenLaw}{n:Nat}{q:Program}{loose:List Str}{XP:(Str->Option Value)->Heap->Prop}{YP:World->Heap->Prop}{d:DefRec}
  (hn:l.most=some n) (hdf:d.params.defaults=[])
  (call:∀(w:World) (s₀ s₁:Shared) (mg mb:Str->Option Value) (fa:Addr) (o:Obj) (pm cd doc:Value) (a:Addr) (vs:List Value) (ns:List Int),
   Ground q loose [] XP w s₀ mg mb s₁.heap->YP w s₁.heap ->
   s₁.heap.get? fa=some o->o.data=.func (docDef d.name d.params d.body d.scope pm cd doc)->s₁.heap.CodeRec cd d.name->mg d.name=some (.ref fa) ->
   s₁.heap.get? a=some { cls:=.type "list",data:=.seq vs.toArray }->IntsAre vs ns->ns.length<=n->s₁.gens=#[] ->
   codeAny (model l.prog w) callerA (.call (.ref fa) ⟨[.ref a],[]⟩) (λr s'=>r=.ok (.ret (.bool true))/\OldK s₁.heap s'.heap/\s'.os=s₁.os/\AllBare s'.gens) s₁):
  WalkO q loose XP YP l.row.toRowW d [] (λf vs=>PySem.call f vs):=by
 intro w s₀ s₁ mg mb G Y fa o pm cd doc dV kV ho hd hcd hD hmg hg args vals as hpre hlay hrd hwl hlo;obtain rfl:dV=.none:=Dflts.none hD hdf;obtain rfl:kV=.none:=Dflts.noKw hD;obtain⟨a,vs,ns,rfl,rfl,hobj,hints,hlen⟩:=c9 hn hpre hwl;refine enter_call (codeAny_mono (call w s₀ s₁ mg mb fa o pm cd doc a vs ns G Y ho (fd_plain hd) hcd hmg hobj hints hlen hg) λr s' hq=>?_);obtain⟨rfl,h2,h3,h4⟩:=hq;exact⟨.inl ⟨.bool true,.bool true,[],rfl,λ_=>rfl,.bool true,U0 l _,λ_=>⟨List.Pairwise.nil,λ_ hm=>(nomatch hm)⟩⟩,h2,h3,h4⟩
end Att
namespace _L
open PySem PySem.Spec PyProof.Rows
theorem jh:∀{vs:List Value}{ns:List Int},IntsAre vs ns->Vals (ns.map V.int) vs
 |_,_,.nil=>.nil
 |_,_,.cons n t h=>.cons ⟨t,rfl⟩ (jh h)
def Only(H:Hp):Prop:=∀b,H b=none\/∃o xs,H b=some (.frz o (.lst xs))
theorem z8{P:Program}{w:World}{K:PySem.W.Frag}{mg mb:Str->Option Value}{CX:CXT}{k:Nat}{fa a:Addr}{fd:FuncData}{x:Str}{sp:Sp}{s₁:Shared}{vs:List Value}{ns:List Int}
  (KX:K.In s₁.heap) (hns:s₁.heap.Ns mainGlobals mg) (hb:s₁.heap.Ns builtinsNs mb) (hbb:∀x:Str,x≠"__name__" -> mb x=bootBuiltins x) (hlim:s₁.heap.NoLimit) (hg:s₁.gens=#[])
  (ha:s₁.heap.get? a=some { cls:=.type "list",data:=.seq vs.toArray }) (hi:IntsAre vs ns) (hl:ns.length<=sizeLine) (hr:Room k callerA)
  (F:∀base:Heap,K.In base->base.Ns mainGlobals mg->FnOk P w K mg base CX k fa fd [x] sp) (hbind:∀(s:Shared) (u:Value),BindsTo s fd ⟨[u],[]⟩ [(x,u)])
  (hsp:∀H:Hp,Only H->SqL K H a (ns.map V.int)->sp [.ref a] H (λv _=>v=.bl true) λ_ _ _=>False)
  (hCX:∀H e s',CX [] H s₁ (λ_ _ _=>False) e s'->False):
  codeAny (model P w) callerA (.call (.ref fa) ⟨[.ref a],[]⟩) (λr s'=>r=.ok (.ret (.bool true))/\OldK s₁.heap s'.heap/\s'.os=s₁.os/\AllBare s'.gens) s₁:=by
 have rv:=jh hi;have lenV:=hi.length;have core:∀H:Hp,Only H->SqL K H a (ns.map V.int)->HOk P w H s₁.heap->(∀b,H b≠none->b=a)->(H a≠none->K.lookup a=none) ->
   codeAny (model P w) callerA (.call (.ref fa) ⟨[.ref a],[]⟩) (λr s'=>r=.ok (.ret (.bool true))/\OldK s₁.heap s'.heap/\s'.os=s₁.os/\AllBare s'.gens) s₁:=by
  intro H hO hS hok hA hK;have base_of:∀{b:Addr}{o:Obj},s₁.heap.get? b=some o->H b=none->(l9 s₁.heap H).get? b=some o:=λe n=>u9 e n;have noA:∀{b:Addr}{o:Obj}{es:Array DictEntry}{ep:Nat},s₁.heap.get? b=some o->o.data=.dict es ep->H b=none:=λ{b o es ep} e d=>by
   cases q:H b with
   |none=>rfl
   |some u=>
    have e':b=a:=hA b (by rw[q];simp);subst e';rw[ha]at e;cases e;have d':Data.seq vs.toArray _=Data.dict es ep:=d;cases d'
  have nsK:∀{b:Addr}{m:Str->Option Value},s₁.heap.Ns b m->(l9 s₁.heap H).Ns b m:=λ{b m} ⟨o,es,ep,e,d,r⟩=>⟨o,es,ep,base_of e (noA e d),d,r⟩
  have hKb:K.In (l9 s₁.heap H):=λb o e=>base_of (KX b o e) (by
   cases q:H b with
   |none=>rfl
   |some u=>
    have e':b=a:=hA b (by rw[q];simp);subst e';rw[hK (by rw[q];simp)]at e;cases e)
  have hM:Mod K mg (l9 s₁.heap H):=⟨hKb,nsK hns,⟨mb,nsK hb,hbb⟩,let ⟨mc,h1,h2⟩:=hlim;⟨mc,nsK h1,h2⟩⟩
  have e0:Env0 P w K mg (l9 s₁.heap H) callerA [] s₁ H:=⟨rfl,hM,λb o e=>qB2 e,Nat.le_of_eq (S3 _ _),trivial,λb hb=>absurd (show b∈([]:List Addr) from hb) (by simp),hok,.of_eq hg⟩
  refine codeAny_mono ((F _ hKb (nsK hns)).run callerA [] s₁ H ⟨[.ref a],[]⟩ [.ref a] [.ref a] _ _ hr e0 (hbind s₁ (.ref a)) (.cons rfl .nil) (hsp H hO hS)) λr s' h=>?_;cases r with
  |error e=>exact(hCX H e s' h).elim
  |ok fl=>
   cases fl with
   |next=>exact False.elim h
   |brk=>exact False.elim h
   |cont=>exact False.elim h
   |ret u=>
    obtain⟨v,H',os,bare,un,hok',r',q⟩:=h;have q':v=.bl true:=q;subst q';obtain rfl:u=Value.bool true:=r';refine⟨rfl,OldK.of_keep λb o e=>?_,os,bare⟩;cases q:H b with
    |none=>exact un.keep b o e q (by intro z;exact absurd (show b∈([]:List Addr) from z) (by simp)) (by simp)
    |some u=>
     rcases hO b with z|⟨ob,xs,z⟩
     ·rw[q]at z;cases z
     ·have z2:=un.frzs b ob _ z;obtain⟨e1,_⟩:=hok b _ z;obtain⟨e2,_⟩:=hok' b _ z2;rw[e]at e1;cases e1;exact e2
 cases hk:K.lookup a with
 |some o=>
  have e:=KX a o hk;rw[ha]at e;cases e;refine core (λ_=>none) (λ_=>.inl rfl) (.inr ⟨_,vs.toArray,_,hk,rfl,rfl,rfl,by rw[wO,lenV];exact hl,by simpa using rv⟩) (λb u z=>by have z':(none:Option HO)=some u:=z;cases z') (λb z=>absurd rfl z) λz=>absurd rfl z
 |none=>
  refine core (λb=>if b=a then some (.frz { cls:=.type "list",data:=.seq vs.toArray } (.lst (ns.map V.int))) else none) (λb=>?_) (.inl (.inr ⟨{ cls:=.type "list",data:=.seq vs.toArray },if_pos rfl⟩)) (λb u z=>?_) (λb z=>?_) λ_=>hk
  ·by_cases hb:b=a
   ·exact .inr ⟨_,_,if_pos hb⟩
   ·exact .inl (if_neg hb)
  ·by_cases hb:b=a
   ·have z':=(if_pos hb).symm.trans z;cases z';subst hb;exact⟨ha,by rw[wK];exact hl,vs,_,rv,ha⟩
   ·have z':=(if_neg hb).symm.trans z;cases z'
  ·by_cases hb:b=a
   ·exact hb
   ·exact absurd (if_neg hb) z
theorem walk_of{l:PySem.W.OpenLaw}{n k:Nat}{q:Program}{loose:List Str}{XP:(Str->Option Value)->Heap->Prop}{YP:World->Heap->Prop}{d:DefRec}{K:Params->PySem.W.Frag}{CX:World->CXT}{sp:World->Sp}{x:Str}
  (hn:l.most=some n) (hn2:n<=sizeLine) (hdf:d.params.defaults=[]) (hr:Room k callerA)
  (hY:∀(w:World) (h:Heap),YP w h->(K w.params).In h)
  (F:∀(w:World) (mg:Str->Option Value) (fa:Addr) (h:Heap),(K w.params).In h->h.Ns mainGlobals mg->mg d.name=some (.ref fa) ->
   ∃fd:FuncData,(∀(s:Shared) (u:Value),BindsTo s fd ⟨[u],[]⟩ [(x,u)])/\
    ∀base:Heap,(K w.params).In base->base.Ns mainGlobals mg->FnOk l.prog w (K w.params) mg base (CX w) k fa fd [x] (sp w))
  (hsp:∀(w:World) (H:Hp) (a:Addr) (ns:List Int),ns.length<=n->Only H->SqL (K w.params) H a (ns.map V.int)->sp w [.ref a] H (λv _=>v=.bl true) λ_ _ _=>False)
  (hCX:∀(w:World) (H:Hp) (s:Shared) (e:Value) (s':Shared),CX w [] H s (λ_ _ _=>False) e s'->False):
  PySem.W.WalkO q loose XP YP l.row.toRowW d [] (λf vs=>PySem.call f vs):=by
 refine Att.attach_call hn hdf λw s₀ s₁ mg mb fa o pm cd doc a vs ns G Y ho hd hcd hmg hobj hints hlen hg=>?_;have KX:=hY w _ Y;obtain⟨fd,hb,hF⟩:=F w mg fa _ KX G.T.g hmg;exact z8 KX G.T.g G.T.b G.T.builtins G.T.nolimit hg hobj hints (wS hlen hn2) hr hF hb (λH hO hS=>hsp w H a ns hlen hO hS) λH e s'=>hCX w H s₁ e s'
noncomputable def ze(s:Stmt):Arguments:=match s with
 | .FunctionDef _ a _ _ _ _ _ _ _ _=>a
 |_=>{ posonlyargs:=[],args:=[],vararg:=none,kwonlyargs:=[],kw_defaults:=[],kwarg:=none,defaults:=[] }
noncomputable def defBody(s:Stmt):List Stmt:=match s with
 | .FunctionDef _ _ b _ _ _ _ _ _ _=>b
 |_=>[]
noncomputable def defScope(s:Stmt):Scope:=match s with
 | .FunctionDef _ _ _ _ _ _ sc _ _ _=>sc
 |_=>{ kind:=.function,names:=[],isGenerator:=false,isCoroutine:=false }
noncomputable abbrev CX0:CXT:=λ_ _ _ _ _ _=>False
noncomputable abbrev E0:XK:=λ_ _ _=>False
theorem pass0{X:Cx}:C7 CX0 X E0:=λ_ _ _ _ _ _ _ h=>h.elim
structure Fun(K:PySem.W.Frag)(x qual:Str)(st:Stmt)(f:Addr)(fd:FuncData):Prop where
 ex:∃(oc:Value) (od:Option Addr) (kV doc pm:Value) (an:Option Addr) (cdv ct:Value) (osl:Array (Option Value)),
  fd=PySem.W.fnOf x qual (ze st) (defBody st) (defScope st) .none kV doc pm an cdv ct/\K.lookup f=some ⟨oc,od,.func fd,osl⟩/\PySem.W.codeIn K cdv qual=true
 kp:PySem.W.keepIn K (.ref f)=true
section
variable{P:Program}{w:World}{K:PySem.W.Frag}{mg:Str->Option Value}{base:Heap}
theorem Fun.ok{x qual:Str}{st:Stmt}{f:Addr}{fd:FuncData}{N ps:List Str}{k:Nat}{sp:Sp}(F:Fun K x qual st f fd)(S:zY N ps (defScope st))(len:∀vs H Q E,sp vs H Q E->vs.length=ps.length)
  (hbody:∀(cdv:Value) (A:Around) (outer:List Env) (s:Shared) (H:Hp) (vs:List V) (Q:VK) (E:XK),Room k (A.deeper (envOfC qual (defScope st) s.heap.objs.size f cdv))->sp vs H Q E ->
   ∃t,PSs (cxOf CX0 P w K mg base N qual (defScope st) f cdv A outer s H E).nox (defBody st) t/\t { nx:=λ_ H'=>Q .non H',rt:=Q } (start N vs) H):FnOk P w K mg base CX0 (k+1) f fd ps sp:=by
 obtain⟨oc,od,kV,doc,pm,an,cdv,ct,osl,rfl,lk,hcd⟩:=F.ex;refine qE2 lk hcd S len λA outer s H vs Q E hr hsp=>?_;obtain⟨t,h,q⟩:=hbody cdv A outer s H vs Q E hr hsp;exact⟨t,h.nox,q⟩
theorem Fun.binds{x qual:Str}{st:Stmt}{f:Addr}{fd:FuncData}{ps:List Str}(F:Fun K x qual st f fd)
  (h:∀(kV doc pm:Value) (an:Option Addr) (cdv ct:Value) (us:List Value),us.length=ps.length->bindArgs (PySem.W.fnOf x qual (ze st) (defBody st) (defScope st) .none kV doc pm an cdv ct) ⟨us,[]⟩=pure (ps.zip us)):Binds K fd ps []:=by
 obtain⟨oc,od,kV,doc,pm,an,cdv,ct,osl,rfl,lk,hcd⟩:=F.ex;exact .all (h kV doc pm an cdv ct)
theorem qA4{x qual:Str}{st:Stmt}{f:Addr}{oc:Value}{od an:Option Addr}{osl:Array (Option Value)}{kV doc pm cdv ct:Value}(l:K.lookup f=some ⟨oc,od,.func (PySem.W.fnOf x qual (ze st) (defBody st) (defScope st) .none kV doc pm an cdv ct),osl⟩)
  (c:PySem.W.codeIn K cdv qual=true) (k:PySem.W.keepIn K (.ref f)=true):Fun K x qual st f (PySem.W.fnOf x qual (ze st) (defBody st) (defScope st) .none kV doc pm an cdv ct):=⟨⟨oc,od,kV,doc,pm,an,cdv,ct,osl,rfl,l,c⟩,k⟩
end
def QR(H H':Hp):Prop:=∀b o,H b=some o->H' b=some o
section
variable{κ:Type}[DecidableEq κ]
noncomputable def valV(kvs:List (κ×V))(k:κ):Option V:=(kvs.find? λkv=>decide (kv.1=k)).map (·.2)
noncomputable def putK(kvs:List (κ×V))(k:κ)(v:V):List (κ×V):=
 if (kvs.any λkv=>decide (kv.1=k))=true then kvs.map (λkv=>if kv.1=k then (kv.1,v) else kv) else kvs++[(k,v)]
noncomputable def qDU(kvs:List (κ×V))(k:κ):List (κ×V):=kvs.filter λkv=>decide (kv.1≠k)
theorem valV_pos{p:κ×V}{r:List (κ×V)}{k:κ}(e:p.1=k):valV (p::r) k=some p.2:=by simp[valV,List.find?_cons,e]
theorem valV_neg{p:κ×V}{r:List (κ×V)}{k:κ}(e:¬ p.1=k):valV (p::r) k=valV r k:=by simp[valV,List.find?_cons,e]
theorem valV_any(k:κ):∀kvs:List (κ×V),(kvs.any λkv=>decide (kv.1=k))=(valV kvs k).isSome
 | []=>rfl
 |p::r=>by
  rw[List.any_cons];by_cases e:p.1=k
  ·simp only[valV_pos e,uI e,Bool.true_or,Option.isSome_some]
  ·rw[valV_neg e,uH e,Bool.false_or];exact valV_any k r
theorem jT(kvs:List (κ×V))(k:κ)(v:V):(putK kvs k v).length<=kvs.length+1:=by
 unfold putK;split
 ·rw[wK];omega
 ·rw[wV,List.length_cons,List.length_nil];omega
theorem RelO.isSome_eq{o:Option V}{u:Option Value}(r:RelO o u):o.isSome=u.isSome:=by
 cases o with
 |none=>cases u with
  |none=>rfl
  |some _=>exact(show False from r).elim
 |some _=>cases u with
  |none=>exact(show False from r).elim
  |some _=>rfl
theorem RelO.getD{o:Option V}{u:Option Value}{d:V}{d':Value}(r:RelO o u)(rd:RelV d d'):RelV (o.getD d) (u.getD d'):=by
 cases o with
 |none=>cases u with
  |none=>exact rd
  |some _=>exact(show False from r).elim
 |some _=>cases u with
  |none=>exact(show False from r).elim
  |some _=>exact r
theorem KV.val{kvs:List (κ×V)}{vs:List (κ×Value)}(r:KV kvs vs)(k:κ):RelO (valV kvs k) (valueAt vs k):=by
 unfold KV at r
 induction r with
 |nil=>exact True.intro
 | @cons p q ps qs h t ih=>
  obtain⟨h1,h2⟩:=h;by_cases e:p.1=k
  ·have e':q.1=k:=h1.symm.trans e;have b:valueAt (q::qs) k=some q.2:=by simp[valueAt,List.find?_cons,e']
   rw[valV_pos e,b];exact h2
  ·have e':¬ q.1=k:=λz=>e (h1.trans z);have b:valueAt (q::qs) k=valueAt qs k:=by simp[valueAt,List.find?_cons,e']
   rw[valV_neg e,b];exact ih
theorem KV.any{kvs:List (κ×V)}{vs:List (κ×Value)}(r:KV kvs vs)(k:κ):(kvs.any λkv=>decide (kv.1=k))=vs.any λkv=>decide (kv.1=k):=by
 unfold KV at r
 induction r with
 |nil=>rfl
 |cons h t ih=>rw[List.any_cons,List.any_cons,ih,h.1]
theorem KV.repl{kvs:List (κ×V)}{vs:List (κ×Value)}(r:KV kvs vs)(k:κ){y:V}{u:Value}(ry:RelV y u):
  KV (kvs.map λkv=>if kv.1=k then (kv.1,y) else kv) (vs.map λkv=>if kv.1=k then (kv.1,u) else kv):=by
 unfold KV at r ⊢
 induction r with
 |nil=>exact .nil
 | @cons p q ps qs h t ih=>
  rw[List.map_cons,List.map_cons];refine .cons ?_ ih;obtain⟨h1,h2⟩:=h;by_cases e:p.1=k
  ·rw[if_pos e,if_pos (h1.symm.trans e)];exact⟨h1,ry⟩
  ·rw[if_neg e,if_neg (λz=>e (h1.trans z))];exact⟨h1,h2⟩
theorem KV.put{kvs:List (κ×V)}{vs:List (κ×Value)}(r:KV kvs vs)(k:κ){y:V}{u:Value}(ry:RelV y u):KV (putK kvs k y) (stored vs k u):=by
 unfold putK stored;rw[r.any k];by_cases e:(vs.any λkv=>decide (kv.1=k))=true
 ·rw[if_pos e,if_pos e];exact r.repl k ry
 ·rw[if_neg e,if_neg e];exact Paired.snoc r ⟨rfl,ry⟩
theorem KV.drop{kvs:List (κ×V)}{vs:List (κ×Value)}(r:KV kvs vs)(k:κ):KV (qDU kvs k) (without vs k):=by
 unfold KV at r ⊢;unfold qDU without
 induction r with
 |nil=>exact .nil
 | @cons p q ps qs h t ih=>
  obtain⟨h1,h2⟩:=h;rw[List.filter_cons,List.filter_cons];by_cases e:p.1=k
  ·have a:¬ decide (p.1≠k)=true:=by simp[e]
   have b:¬ decide (q.1≠k)=true:=by simp[h1.symm.trans e]
   rw[if_neg a,if_neg b];exact ih
  ·have e':¬ q.1=k:=λz=>e (h1.trans z);have a:decide (p.1≠k)=true:=by simp[e]
   have b:decide (q.1≠k)=true:=by simp[e']
   rw[if_pos a,if_pos b];exact .cons ⟨h1,h2⟩ ih
theorem KV.keys{kvs:List (κ×V)}{vs:List (κ×Value)}(r:KV kvs vs):kvs.map (·.1)=vs.map (·.1):=by
 unfold KV at r
 induction r with
 |nil=>rfl
 |cons h t ih=>rw[List.map_cons,List.map_cons,ih,h.1]
theorem KV.length{kvs:List (κ×V)}{vs:List (κ×Value)}(r:KV kvs vs):kvs.length=vs.length:=Paired.length r
end
theorem kV_is{P:Program}{w:World}{k:Key}{u:Value}(r:RelV (kV k) u):(qb P w).is k u=true:=by
 cases k with
 |inl i=>obtain⟨t,e⟩:=(show ∃t,u=Value.int i t from r);subst e;exact B9 P w i t
 |inr x=>obtain⟨t,e⟩:=(show ∃t,u=Value.str x t from r);subst e;exact B3 P w x t
theorem JU{P:Program}{w:World}:∀{ks:List Key}{us:List Value},Vals (ks.map kV) us->ItemsAre (qb P w) ks us
 | [],_,r=>by rw[List.map_nil]at r;cases r;exact .nil
 |k::ks,_,r=>by
  rw[List.map_cons]at r;cases r with
  |cons h t=>exact .cons (kV_is h) (JU t)
abbrev KT(H:Hp):List (List Key×V)->List (List Key×Addr×Value)->Prop:=Paired λp q=>p.1=q.1/\H q.2.1=some (.tup (p.1.map kV))/\RelV p.2 q.2.2
theorem KT.val{H:Hp}{kvs:List (List Key×V)}{xs:List (List Key×Addr×Value)}(r:KT H kvs xs)(k:List Key):RelO (valV kvs k) ((atKey xs k).map (·.2)):=by
 induction r with
 |nil=>exact True.intro
 | @cons p q ps qs h t ih=>
  obtain⟨h1,_,h2⟩:=h;by_cases e:p.1=k
  ·have e':q.1=k:=h1.symm.trans e;have b:atKey (q::qs) k=some q.2:=by simp[atKey,List.find?_cons,e']
   rw[valV_pos e,b];exact h2
  ·have e':¬ q.1=k:=λz=>e (h1.trans z);have b:atKey (q::qs) k=atKey qs k:=by simp[atKey,List.find?_cons,e']
   rw[valV_neg e,b];exact ih
theorem KT.repl{H:Hp}{kvs:List (List Key×V)}{xs:List (List Key×Addr×Value)}(r:KT H kvs xs)(k:List Key){y:V}{u:Value}(ry:RelV y u):
  KT H (kvs.map λkv=>if kv.1=k then (kv.1,y) else kv) (xs.map (putAt k u)):=by
 induction r with
 |nil=>exact .nil
 | @cons p q ps qs h t ih=>
  rw[List.map_cons,List.map_cons];refine .cons ?_ ih;obtain⟨h1,h2,h3⟩:=h;unfold putAt;by_cases e:p.1=k
  ·rw[if_pos e,if_pos (h1.symm.trans e)];exact⟨h1,h2,ry⟩
  ·rw[if_neg e,if_neg (λz=>e (h1.trans z))];exact⟨h1,h2,h3⟩
theorem KT.put{H:Hp}{kvs:List (List Key×V)}{xs:List (List Key×Addr×Value)}(r:KT H kvs xs)(k:List Key){b:Addr}{y:V}{u:Value}(hb:H b=some (.tup (k.map kV)))(ry:RelV y u):
  KT H (putK kvs k y) (storedH xs k b u):=by
 have e:(kvs.any λkv=>decide (kv.1=k))=(atKey xs k).isSome:=by
  rw[valV_any,(r.val k).isSome_eq,Option.isSome_map]
 unfold putK storedH;rw[e];by_cases q:(atKey xs k).isSome=true
 ·rw[if_pos q,if_pos q];exact r.repl k ry
 ·rw[if_neg q,if_neg q];exact Paired.snoc r ⟨rfl,hb,ry⟩
theorem KT.keeps{H H':Hp}{kvs:List (List Key×V)}{xs:List (List Key×Addr×Value)}(r:KT H kvs xs)(ht:∀b ys,H b=some (.tup ys)->H' b=some (.tup ys)):KT H' kvs xs:=
 Paired.mapP r λ_ _ z=>⟨z.1,ht _ _ z.2.1,z.2.2⟩
section
variable{P:Program}{w:World}{H:Hp}{h:Heap}{a:Addr}
theorem qDL{u:HO}(ok:HOk P w H h)(e:Rd H a u):ObjOk P w H h a u:=e.ok ok
theorem P4{kvs:List (Key×V)}(ok:HOk P w H h)(e:Rd H a (.dK kvs)):kvs.length<=sizeLine/\(a==sysModules)=false/\∃vs,KV kvs vs/\h.DictOf (qb P w) a vs:=
 show ObjOk P w H h a (.dK kvs) from qDL ok e
theorem qFM{kvs:List (Key×V)}(ok:HOk P w H h)(e:H a=some (.dK kvs)):kvs.length<=sizeLine/\(a==sysModules)=false/\∃vs,KV kvs vs/\h.DictOf (qb P w) a vs:=P4 ok (.inl e)
theorem Je{ks:List Key}(ok:HOk P w H h)(e:H a=some (.tup (ks.map kV))):(tupleKind (qb P w)).is h ks a:=by
 obtain⟨_,its,r,o,h1,h2,n,h3⟩:=(show ObjOk P w H h a (.tup (ks.map kV)) from ok a _ e)
 exact⟨o,its.toArray,n,h1,h2,h3,by simpa using JU r⟩
theorem Q8{kvs:List (List Key×V)}(ok:HOk P w H h)(e:Rd H a (.dT kvs)):kvs.length<=sizeLine/\(a==sysModules)=false/\
  ∃xs,KT H kvs xs/\h.DictOfH (tupleKind (qb P w)) a xs:=by
 obtain⟨z,y,xs,r,o,es,ep,h1,h2,h3,h4,h5⟩:=(show ObjOk P w H h a (.dT kvs) from qDL ok e)
 refine⟨z,y,xs,r,o,es,ep,h1,h2,h3,h4,λx hx=>?_,h5⟩;have all:∀{l:List (List Key×V)}{m:List (List Key×Addr×Value)},KT H l m->∀x∈m,(tupleKind (qb P w)).is h x.1 x.2.1:=by
  intro l m q
  induction q with
  |nil=>intro x hx;exact nomatch hx
  | @cons p q ps qs hq t ih=>
   intro x hx;rcases wJ.mp hx with e|hx
   ·subst e;exact Je ok (by rw[<-hq.1];exact hq.2.1)
   ·exact ih x hx
 exact all r x hx
theorem qFj{kvs:List (List Key×V)}(ok:HOk P w H h)(e:H a=some (.dT kvs)):kvs.length<=sizeLine/\(a==sysModules)=false/\
  ∃xs,KT H kvs xs/\h.DictOfH (tupleKind (qb P w)) a xs:=Q8 ok (.inl e)
end
def DGet(H:Hp)(a:Addr)(y:V)(r:Option V):Prop:=
 (∃kvs k,Rd H a (.dK kvs)/\y=kV k/\r=valV kvs k)\/∃kvs k b,Rd H a (.dT kvs)/\y=.ref b/\H b=some (.tup (k.map kV))/\r=valV kvs k
def DPut(H:Hp)(a:Addr)(y v:V)(H':Hp):Prop:=
 (∃kvs k,H a=some (.dK kvs)/\y=kV k/\kvs.length<sizeLine/\H'=upd H a (.dK (putK kvs k v)))\/
 ∃kvs k b,H a=some (.dT kvs)/\y=.ref b/\H b=some (.tup (k.map kV))/\kvs.length<sizeLine/\H'=upd H a (.dT (putK kvs k v))
theorem DGet.k{H:Hp}{a:Addr}{kvs:List (Key×V)}{k:Key}(e:H a=some (.dK kvs)):DGet H a (kV k) (valV kvs k):=.inl ⟨kvs,k,.inl e,rfl,rfl⟩
theorem DGet.t{H:Hp}{a b:Addr}{kvs:List (List Key×V)}{k:List Key}(e:H a=some (.dT kvs))(eb:H b=some (.tup (k.map kV))):DGet H a (.ref b) (valV kvs k):=.inr ⟨kvs,k,b,.inl e,rfl,eb,rfl⟩
theorem DPut.k{H:Hp}{a:Addr}{kvs:List (Key×V)}{k:Key}{v:V}(e:H a=some (.dK kvs))(hl:kvs.length<sizeLine):DPut H a (kV k) v (upd H a (.dK (putK kvs k v))):=.inl ⟨kvs,k,e,rfl,hl,rfl⟩
theorem DPut.t{H:Hp}{a b:Addr}{kvs:List (List Key×V)}{k:List Key}{v:V}(e:H a=some (.dT kvs))(eb:H b=some (.tup (k.map kV)))(hl:kvs.length<sizeLine):
  DPut H a (.ref b) v (upd H a (.dT (putK kvs k v))):=.inr ⟨kvs,k,b,e,rfl,eb,hl,rfl⟩
section
variable{X:Cx}{pins:List (Addr×Obj)}{σ:St}{H:Hp}{s:Shared}{a:Addr}{y v:V}{u r:Value}{o:Option V}{A:Around}{E:Value->Shared->Prop}
theorem Inv.big(I:Inv X pins σ H s):sysModules<s.heap.objs.size:=by
 have h:mainGlobals<s.heap.objs.size:=(I.mod.glob.keeps I.bk).lt;exact wz (by decide) h
theorem d_getItem{Q:Value->Shared->Prop}(hu:A.units+1<cLine)(I:Inv X pins σ H s)(g:DGet H a y (some v))(ry:RelV y u)(h:∀w' s',Inv X pins σ H s'->RelV v w'->Q w' s'):
  wpAny (model X.prog X.w) A (getItem (.ref a) u) Q E s:=by
 rcases g with⟨kvs,k,e,ey,l⟩|⟨kvs,k,b,e,ey,eb,l⟩
 ·subst ey;obtain⟨z,hd,vs,rel,dd⟩:=P4 I.hok e;obtain⟨w',hw,rw'⟩:=RelO.some_of (v:=v) (o:=valueAt vs k) (by rw[l];exact rel.val k);exact wpAny_getItem_of (kV_is ry) dd.mapOf hw (h w' _ (I.tok _) rw')
 ·subst ey;cases (show u=Value.ref b from ry);obtain⟨z,hd,xs,rel,dd⟩:=Q8 I.hok e;obtain⟨w',hw,rw'⟩:=RelO.some_of (v:=v) (o:=(atKey xs k).map (·.2)) (by rw[l];exact rel.val k);obtain⟨p,hp,hp2⟩:=wA.mp hw;refine wpAny_getItem_heap (tupleKind_room_in1 hu) (Je I.hok eb) dd hp ?_;rw[hp2];exact h w' _ (I.tok _) rw'
theorem d_in{Q:Value->Shared->Prop}(hu:A.units+1<cLine)(I:Inv X pins σ H s)(g:DGet H a y o)(ry:RelV y u)(h:∀s',Inv X pins σ H s'->Q (.bool o.isSome) s'):
  wpAny (model X.prog X.w) A (compareOp .In u (.ref a)) Q E s:=by
 rcases g with⟨kvs,k,e,ey,l⟩|⟨kvs,k,b,e,ey,eb,l⟩
 ·subst ey;obtain⟨z,hd,vs,rel,dd⟩:=P4 I.hok e;refine wpAny_in_of (kV_is ry) hd dd.mapOf ?_;rw[<-(rel.val k).isSome_eq,<-l];exact h _ (I.tok _)
 ·subst ey;cases (show u=Value.ref b from ry);obtain⟨z,hd,xs,rel,dd⟩:=Q8 I.hok e;refine wpAny_in_heap (tupleKind_room_in1 hu) (Je I.hok eb) hd dd ?_;have q:=(rel.val k).isSome_eq;rw[Option.isSome_map]at q;rw[<-q,<-l];exact h _ (I.tok _)
theorem d_notIn{Q:Value->Shared->Prop}(hu:A.units+1<cLine)(I:Inv X pins σ H s)(g:DGet H a y o)(ry:RelV y u)(h:∀s',Inv X pins σ H s'->Q (.bool (!o.isSome)) s'):
  wpAny (model X.prog X.w) A (compareOp .NotIn u (.ref a)) Q E s:=by
 rcases g with⟨kvs,k,e,ey,l⟩|⟨kvs,k,b,e,ey,eb,l⟩
 ·subst ey;obtain⟨z,hd,vs,rel,dd⟩:=P4 I.hok e;refine wpAny_notIn_of (kV_is ry) hd dd.mapOf ?_;rw[<-(rel.val k).isSome_eq,<-l];exact h _ (I.tok _)
 ·subst ey;cases (show u=Value.ref b from ry);obtain⟨z,hd,xs,rel,dd⟩:=Q8 I.hok e;refine wpAny_notIn_heap (tupleKind_room_in1 hu) (Je I.hok eb) hd dd ?_;have q:=(rel.val k).isSome_eq;rw[Option.isSome_map]at q;rw[<-q,<-l];exact h _ (I.tok _)
theorem X7{h':Heap}{t':Nat}{ob:HO}(I:Inv X pins σ H s)(mu:Mut (H a))(hs:Heap.SameBut a s.heap h')(he:∃q,h'.get? a=some q)(new:ObjOk X.prog X.w (upd H a ob) h' a ob):
  Inv X pins σ (upd H a ob) { s with heap:=h',toks:=t' }:=
 I.write (x:=a) (e:=a) mu (.inl rfl) (λb q hb z=>(hs.2 b hb).trans z) he new
theorem dk_new{P:Program}{w:World}{H':Hp}{h':Heap}{kvs:List (Key×V)}{vs:List (Key×Value)}(z:kvs.length<=sizeLine)(hd:(a==sysModules)=false)(rel:KV kvs vs)(dd:h'.DictOf (qb P w) a vs):
  ObjOk P w H' h' a (.dK kvs):=⟨z,hd,vs,rel,dd⟩
theorem d_setItem{H':Hp}{Q:Unit->Shared->Prop}(hu:A.units+1<cLine)(I:Inv X pins σ H s)(g:DPut H a y v H')(ry:RelV y u)(rv:RelV v r)(h:∀s',Inv X pins σ H' s'->Q () s'):
  wpAny (model X.prog X.w) A (setItem (.ref a) u r) Q E s:=by
 rcases g with⟨kvs,k,e,ey,l,eH⟩|⟨kvs,k,b,e,ey,eb,l,eH⟩
 ·subst ey eH;obtain⟨z,hd,vs,rel,dd⟩:=qFM I.hok e;have hz:vs.length<=sizeLine:=by rw[<-rel.length];exact z
  have hl:(putK kvs k v).length<=sizeLine:=by have:=jT kvs k v;omega
  refine wpAny_setItem_pairs (hsz:=hz) (kV_is ry) dd λh' dd' hs=>h _ ?_;have he:∃q,h'.get? a=some q:=let ⟨q,_,_,hq,_⟩:=dd';⟨q,hq⟩
  exact X7 I (by rw[e];exact True.intro) hs he (dk_new hl hd (rel.put k rv) dd')
 ·subst ey eH;cases (show u=Value.ref b from ry);obtain⟨z,hd,xs,rel,dd⟩:=qFj I.hok e;have hz:xs.length<=sizeLine:=by rw[<-Paired.length rel];exact z
  have hl:(putK kvs k v).length<=sizeLine:=by have:=jT kvs k v;omega
  refine wpAny_setItem_heap (hsz:=hz) (tupleKind_room_in1 hu) (Je I.hok eb) dd λh' dd' hs=>h _ ?_;obtain⟨q,es,ep,hq,h2,h3,h4,_,h5⟩:=dd';refine X7 I (by rw[e];exact True.intro) hs ⟨q,hq⟩ ⟨hl,hd,_,(rel.put k eb rv).keeps λc ys ec=>?_,q,es,ep,hq,h2,h3,h4,h5⟩;rw[qE (qFk ec e (λz=>nomatch z))];exact ec
end
section
variable{X:Cx}{pins:List (Addr×Obj)}{σ:St}{H:Hp}{s:Shared}{a:Addr}{kvs:List (Key×V)}{k:Key}{u:Value}{A:Around}{E:Value->Shared->Prop}
theorem d_len{Q:Value->Shared->Prop}(I:Inv X pins σ H s)(e:Rd H a (.dK kvs))(h:∀t s',Inv X pins σ H s'->Q (.int kvs.length t) s'):wpAny (model X.prog X.w) A (call (.builtin "len") [.ref a]) Q E s:=by
 obtain⟨z,hd,vs,rel,dd⟩:=P4 I.hok e;refine call_len_dict hd dd (by rw[<-rel.length];rw[sizeLine_eq]at z;omega) ?_;rw[<-rel.length];exact h _ _ (I.tok _)
end
theorem dict_typeIs{X:Cx}{pins:List (Addr×Obj)}{σ:St}{H:Hp}{s:Shared}{a:Addr}{y:V}{o:Option V}(I:Inv X pins σ H s)(g:DGet H a y o):s.TypeIs (.ref a) "dict":=by
 rcases g with⟨kvs,k,e,_,_⟩|⟨kvs,k,b,e,_,_,_⟩
 ·obtain⟨_,_,vs,_,dd⟩:=P4 I.hok e;exact dd.typeIs
 ·obtain⟨_,_,xs,_,dd⟩:=Q8 I.hok e;exact dd.typeIs
noncomputable def QA(kvs more:List (Key×V)):List (Key×V):=more.foldl (λacc kv=>putK acc kv.1 kv.2) kvs
theorem KV.merge:∀{more:List (Key×V)}{rs:List (Key×Value)}{kvs:List (Key×V)}{vs:List (Key×Value)},KV more rs->KV kvs vs->KV (QA kvs more) (merged vs rs):=by
 intro more rs kvs vs r;unfold KV at r
 induction r generalizing kvs vs with
 |nil=>intro q;exact q
 | @cons p q ps qs h t ih=>
  intro r0;have e:KV (putK kvs p.1 p.2) (stored vs q.1 q.2):=by
   have:=r0.put p.1 h.2;rw[<-h.1];exact this
  exact ih e
theorem length_mergeK:∀(more kvs:List (Key×V)),(QA kvs more).length<=kvs.length+more.length
 | [],kvs=>by show kvs.length<=kvs.length+0;omega
 |p::r,kvs=>by
  have h1:=length_mergeK r (putK kvs p.1 p.2);have h2:=jT kvs p.1 p.2;show (QA (putK kvs p.1 p.2) r).length<=_;rw[List.length_cons];omega
structure M1(X:Cx)(o:Expr)(m:Str)(apos:Pos)(e:Expr)(cpos:Pos):Prop where
 base:attributeBase o m X.env (eval o X.env)=eval o X.env
 few:((backTo cpos (starEach [e] X.env)).all (λx=>!x.1)&&(backToKw cpos (keywordEach [] X.env)).all (λx=>x.1.isSome)
  && decide (([e]:List Expr).length+([]:List Keyword).length+(if ([]:List Keyword).isEmpty then 0 else 1)<30))=true
 line:(apos.endLine==cpos.line)=true
 trees:backTo cpos (starEach [e] X.env)=[(false,eval e X.env)]
structure M2(X:Cx)(o:Expr)(m:Str)(apos:Pos)(e f:Expr)(cpos:Pos):Prop where
 base:attributeBase o m X.env (eval o X.env)=eval o X.env
 few:((backTo cpos (starEach [e,f] X.env)).all (λx=>!x.1)&&(backToKw cpos (keywordEach [] X.env)).all (λx=>x.1.isSome)
  && decide (([e,f]:List Expr).length+([]:List Keyword).length+(if ([]:List Keyword).isEmpty then 0 else 1)<30))=true
 line:(apos.endLine==cpos.line)=true
 trees:backTo cpos (starEach [e,f] X.env)=[(false,eval e X.env),(false,eval f X.env)]
end _L
set_option maxHeartbeats 4000000
namespace _L
open PySem PySem.Spec PyProof.Rows
theorem qDv{P:Program}{w:World}{k:Key}{u:Value}(h:(qb P w).is k u=true):RelV (kV k) u:=by
 have h:Zh k u=true:=h;cases k with
 |inl i=>cases u<;>simp[Zh,Value.isInt]at h<;>first|(subst h;exact⟨_,rfl⟩)|(obtain⟨h⟩:=h;subst h;exact⟨_,rfl⟩)
 |inr x=>cases u<;>simp[Zh,Value.isStrOf]at h<;>(subst h;exact⟨_,rfl⟩)
section
variable{X:Cx}{pins:List (Addr×Obj)}{σ:List (Option V)}{H:Hp}{s:Shared}{a:Addr}{u u':HO}
theorem Inv.resay(I:Inv X pins σ H s)(e:H a=some u)(hf:∀xs,u≠.tup xs)(hw:∀x,u≠.own x)(ht:∀ps,u≠.tbl ps)(hz:∀o v,u=.frz o v->X.H₀ a≠some (.frz o v))(ok:ObjOk X.prog X.w (upd H a u') s.heap a u'):Inv X pins σ (upd H a u') s:=by
 have nn:∀{b:Addr},H b=none->b≠a:=λq z=>by subst z;rw[e]at q;cases q
 have un:∀{b:Addr},b≠a->upd H a u' b=H b:=λq=>qE q;refine⟨I.ok,I.os,I.bare,⟨I.base.keep,I.base.slot,λb o q n x=>?_,I.base.there,λb xs q=>?_,λb o v q=>?_,λb ps q=>?_⟩,I.loc,I.cell,?_,λx c q=>?_,λp hp=>?_,λb o q=>?_,I.len⟩
 ·have:=I.base.free b o q n x;rw[un (nn this)];exact this
 ·have:=I.base.tups b xs q;by_cases z:b=a
  ·subst z;rw[e]at this;cases this;exact absurd rfl (hf xs)
  ·rw[un z];exact this
 ·have:=I.base.frzs b o v q;by_cases z:b=a
  ·subst z;rw[e]at this;cases this;exact absurd q (hz o v rfl)
  ·rw[un z];exact this
 ·obtain⟨more,this⟩:=I.base.tbls b ps q;by_cases z:b=a
  ·subst z;rw[e]at this;cases this;exact absurd rfl (ht _)
  ·exact⟨more,by rw[un z];exact this⟩
 ·rw[un (nn I.free)];exact I.free
 ·have:=I.freeC x c q;rw[un (nn this)];exact this
 ·obtain⟨p1,p2,p3⟩:=I.pin p hp;exact⟨p1,by rw[un (nn p2)];exact p2,p3⟩
 ·by_cases z:b=a
  ·subst z;rw[qC]at q;cases q;exact ok
  ·rw[un z]at q;refine(I.hok b o q).stay (λ_ _ _ g=>g) (λc hc=>?_) λc xs hc=>?_
   ·rw[un (λz=>by subst z;rw[e]at hc;cases hc;exact hw _ rfl)];exact hc
   ·rw[un (λz=>by subst z;rw[e]at hc;cases hc;exact hf _ rfl)];exact hc
theorem Inv.freeze(I:Inv X pins σ H s){kvs:List (Key×V)}(e:H a=some (.dK kvs)):∃o vs ep,Inv X pins σ (upd H a (.frz o (.dK kvs))) s/\KV kvs vs/\(a==sysModules)=false/\(∀h:Heap,h.get? a=some o->Heap.DictAt (qb X.prog X.w) h a vs ep)/\s.heap.get? a=some o:=by
 obtain⟨z,y,vs,r,o,es,ep,e1,e2,e3,e4,e5,e6⟩:=(show ObjOk X.prog X.w H s.heap a (.dK kvs) from I.hok a _ e)
 refine⟨o,vs,ep,I.resay e (λ_ q=>by cases q) (λ_ q=>by cases q) (λ_ q=>by cases q) (λ_ _ q=>by cases q) ⟨e1,z,y,vs,r,o,es,ep,e1,e2,e3,e4,e5,e6⟩,r,y,λh q=>⟨o,es,q,e2,e3,e4,e5,e6⟩,e1⟩
theorem Inv.melt(I:Inv X pins σ H s){o:Obj}{kvs:List (Key×V)}(e:H a=some (.frz o (.dK kvs)))(h0:∀o v,X.H₀ a≠some (.frz o v)):Inv X pins σ (upd H a (.dK kvs)) s:=by
 obtain⟨_,k⟩:=(show ObjOk X.prog X.w H s.heap a (.frz o (.dK kvs)) from I.hok a _ e)
 exact I.resay e (λ_ q=>by cases q) (λ_ q=>by cases q) (λ_ q=>by cases q) (λ_ _ q=>h0 _ _) k
end
noncomputable def Itk(a:Addr)(o:Obj)(kvs:List (Key×V)):It:=
 ⟨λi H=>H a=some (.frz o (.dK kvs))/\i<kvs.length,λi H x H'=>H'=H/\∃k,kvs[i]?=some k/\x=kV k.1,λi H=>H a=some (.frz o (.dK kvs))/\kvs.length<=i⟩
theorem KV.len{kvs:List (Key×V)}{vs:List (Key×Value)}(r:KV kvs vs):vs.length=kvs.length:=(Paired.length r).symm
theorem KV.key{kvs:List (Key×V)}{vs:List (Key×Value)}(r:KV kvs vs){i:Nat}{k:Key×V}(e:kvs[i]?=some k):∃v,vs[i]?=some (k.1,v):=by
 induction r generalizing i with
 |nil=>simp at e
 |cons h t ih=>
  cases i with
  |zero=>cases e;exact⟨_,by rw[List.getElem?_cons_zero];congr 1;exact Prod.ext h.1.symm rfl⟩
  |succ i=>exact ih (by simpa using e)
theorem Y9{P:Program}{w:World}{K:PySem.W.Frag}{tg:Expr}(a it:Addr){o:Obj}{kvs:List (Key×V)}{vs:List (Key×Value)}{ep:Nat}(r:KV kvs vs)(hd:∀h:Heap,h.get? a=some o->Heap.DictAt (qb P w) h a vs ep):ZL P w K tg (Itk a o kvs) [it] it (λi h=>h.IsKeyIter it a i vs.length ep) where
 mem:=by simp
 obj:=λi h st b hb=>by
  have e:b=it:=by simpa using hb
  subst e;obtain⟨o,e,c,d⟩:=st;exact⟨o,e,λv z=>by rw[d]at z;cases z⟩
 keep:=λi h h' ⟨o,e,c,d⟩ k=>⟨o,k it (by simp) o e,c,d⟩
 item:=by
  intro X hP hw hK hc i pins s σ H E I hf st hg;subst hP hw hK;obtain⟨eH,hi⟩:=hg;obtain⟨g,_⟩:=(show ObjOk X.prog X.w H s.heap a (.frz o (.dK kvs)) from I.hok a _ eH)
  obtain⟨k,hk⟩:∃k,kvs[i]?=some k:=⟨_,wD hi⟩
  obtain⟨v,hv⟩:=r.key hk;obtain⟨f0,f1,f2,f3,f4,f5⟩:=hf it (by simp);refine wpAny_pyNext_dict_item st (hd _ g) hv λkey h' hkey st' sb=>?_;have I1:Inv X pins σ H { s with heap:=h' }:=I.turned (t':=s.toks) (λb o hb e=>(sb.2 b hb).trans e) f0 f1 f3 f4 f5;exact⟨key,rfl,letGo_keyiter (s':={ s with heap:=h' }) st' ⟨kV k.1,H,I1,qDv hkey,⟨rfl,k,hk,rfl⟩,st',λb hb=>(hf b hb).1⟩⟩
 done:=by
  intro X hP hw hK hc i pins s σ H E I hf st hg;subst hP hw hK;obtain⟨eH,hi⟩:=hg;obtain⟨g,_⟩:=(show ObjOk X.prog X.w H s.heap a (.frz o (.dK kvs)) from I.hok a _ eH)
  obtain⟨f0,f1,f2,f3,f4,f5⟩:=hf it (by simp);exact wpAny_pyNext_dict_end (I.ok.hd hc) st (hd _ g) (vK (by rw[r.len];exact hi)) λh' eb=>⟨rfl,I.turned (t':=s.toks) (λb o hb e=>eb b o hb e) f0 f1 f3 f4 f5⟩
 self:=λ_ _ _ _ _ st h=>wpAny_pyIter_keyiter st h
noncomputable def P7(cells:List (Str×Addr)):List (Str×NameKind)->List (Str×Addr)->List (Str×Addr)
 | [],cs=>cs
 | (n,k)::r,cs=>P7 cells r (if k=.free then (match cells.lookup n with|some c=>(n,c)::cs|none=>cs) else cs)
theorem zz{scope:Scope}{env:Env}(h:∀y∈scope.names,y.2=.free->∃c,env.cells.lookup y.1=some c):closureFor scope env=pure (P7 env.cells scope.names []):=by
 simp only[closureFor];generalize scope.names=names at h;have key:∀(names:List (Str×NameKind)) (cs:List (Str×Addr)),(∀y∈names,y.2=.free->∃c,env.cells.lookup y.1=some c) ->
   (forIn names cs λx r=>if (x.2==NameKind.free)=true then do let c <- cellOf env x.1;pure (ForInStep.yield ((x.1,c)::r)) else pure (ForInStep.yield r))=(pure (P7 env.cells names cs):Sem _):=by
  intro names
  induction names with
  |nil=>intro cs _;rfl
  |cons y r ih=>
   intro cs hy;obtain⟨n,k⟩:=y;rw[vz];by_cases hk:k=.free
   ·subst hk;obtain⟨c,hc⟩:=hy (n,.free) wU rfl;have hc':List.lookup n env.cells=some c:=hc;have e:cellOf env n=pure c:=by unfold cellOf;rw[hc']
    simp only[uM,if_true,e,pure_bind,P7,hc'];exact ih _ λy hm=>hy y (wL _ hm)
   ·have hb:(k==NameKind.free)=false:=by simpa using hk
    simp only[hb,vF,if_false,pure_bind,P7,if_neg hk];exact ih _ λy hm=>hy y (wL _ hm)
 rw[key names [] h];rfl
theorem qA6{cells:List (Str×Addr)}{x:Str}{c:Addr}:∀{names:List (Str×NameKind)}{cs:List (Str×Addr)},(P7 cells names cs).lookup x=some c->cs.lookup x=some c\/cells.lookup x=some c
 | [],cs,h=>.inl h
 | (n,k)::r,cs,h=>by
  unfold P7 at h;rcases qA6 h with h2|h2
  ·clear h;by_cases hk:k=.free
   ·rw[if_pos hk]at h2;cases e:cells.lookup n with
    |none=>rw[e]at h2;exact .inl h2
    |some c'=>
     rw[e]at h2;simp only[List.lookup_cons]at h2;cases hx:x==n with
     |true=>
      have hx':x=n:=by simpa using hx
      rw[hx]at h2;subst hx';cases h2;exact .inr e
     |false=>
      rw[hx]at h2;exact .inl h2
   ·rw[if_neg hk]at h2;exact .inl h2
  ·exact .inr h2
theorem qBE{cells:List (Str×Addr)}{x:Str}{c:Addr}(hc:cells.lookup x=some c):∀{names:List (Str×NameKind)}{cs:List (Str×Addr)},((x,NameKind.free)∈names\/cs.lookup x=some c)->(∀c',cs.lookup x=some c'->c'=c)->(P7 cells names cs).lookup x=some c
 | [],cs,h,_=>by
  rcases h with h|h
  ·exact nomatch h
  ·exact h
 | (n,k)::r,cs,h,hu=>by
  unfold P7;refine qBE hc ?_ ?_
  ·rcases h with h|h
   ·rcases wJ.mp h with h|h
    ·cases h;right;rw[if_pos rfl,hc];simp
    ·exact .inl h
   ·right;by_cases hk:k=.free
    ·rw[if_pos hk];cases e:cells.lookup n with
     |none=>exact h
     |some c'=>
      simp only[List.lookup_cons];cases hx:x==n with
      |true=>
       have hx':x=n:=by simpa using hx
       subst hx';rw[hc]at e;cases e;rfl
      |false=>exact h
    ·rw[if_neg hk];exact h
  ·intro c' h';by_cases hk:k=.free
   ·rw[if_pos hk]at h';cases e:cells.lookup n with
    |none=>rw[e]at h';exact hu c' h'
    |some c2=>
     rw[e]at h';simp only[List.lookup_cons]at h';cases hx:x==n with
     |true=>
      have hx':x=n:=by simpa using hx
      subst hx';rw[hx]at h';rw[hc]at e;cases e;cases h';rfl
     |false=>
      rw[hx]at h';exact hu c' h'
   ·rw[if_neg hk]at h';exact hu c' h'
theorem QB{env:Env}:∀{names:List (Str×NameKind)}{x:Str},names.lookup x=some .free ->
  (names.map λ(n,k)=>if (k==NameKind.free&&env.scope.kind==.function&&env.kindOf n==some .cell) then (n,NameKind.cell) else (n,k)).lookup x=some .cell\/
  (names.map λ(n,k)=>if (k==NameKind.free&&env.scope.kind==.function&&env.kindOf n==some .cell) then (n,NameKind.cell) else (n,k)).lookup x=some .free
 | [],_,h=>by simp at h
 | (n,k)::r,x,h=>by
  have ih:=@QB env r x;simp only[List.map_cons];cases hx:x==n with
  |true=>
   simp only[List.lookup_cons,hx]at h;cases h;by_cases hc:(NameKind.free==NameKind.free&&env.scope.kind==.function&&env.kindOf n==some .cell)=true
   ·rw[if_pos hc];left;simp[List.lookup_cons,hx]
   ·rw[if_neg hc];right;simp[List.lookup_cons,hx]
  |false=>
   simp only[List.lookup_cons,hx]at h;by_cases hc:(k==NameKind.free&&env.scope.kind==.function&&env.kindOf n==some .cell)=true
   ·rw[if_pos hc];simp only[List.lookup_cons,hx];exact ih h
   ·rw[if_neg hc];simp only[List.lookup_cons,hx];exact ih h
theorem jH{env:Env}:∀{names:List (Str×NameKind)}{x:Str},
  ((names.map λ(n,k)=>if (k==NameKind.free&&env.scope.kind==.function&&env.kindOf n==some .cell) then (n,NameKind.cell) else (n,k)).lookup x=some .cell\/
  (names.map λ(n,k)=>if (k==NameKind.free&&env.scope.kind==.function&&env.kindOf n==some .cell) then (n,NameKind.cell) else (n,k)).lookup x=some .free)->names.lookup x=some .free\/names.lookup x=some .cell
 | [],_,h=>by simp at h
 | (n,k)::r,x,h=>by
  have ih:=@jH env r x;simp only[List.map_cons]at h;cases hx:x==n with
  |true=>
   simp only[List.lookup_cons,hx];by_cases hc:(k==NameKind.free&&env.scope.kind==.function&&env.kindOf n==some .cell)=true
   ·rw[if_pos hc]at h;have hk:k=.free:=by
     cases k<;>first|rfl|(simp at hc)
    rw[hk];exact .inl rfl
   ·rw[if_neg hc]at h;simp only[List.lookup_cons,hx]at h;exact h.symm
  |false=>
   simp only[List.lookup_cons,hx];by_cases hc:(k==NameKind.free&&env.scope.kind==.function&&env.kindOf n==some .cell)=true
   ·rw[if_pos hc]at h;simp only[List.lookup_cons,hx]at h;exact ih h
   ·rw[if_neg hc]at h;simp only[List.lookup_cons,hx]at h;exact ih h
theorem jR:∀(names:List (Str×NameKind)) (a:Nat) (acc:List (Str×Addr)),cellsFrom a names acc=cellsFrom a names []++acc
 | [],a,acc=>rfl
 | (n,k)::r,a,acc=>by
  unfold cellsFrom;split
  ·rw[jR r (a+1) ((n,a)::acc),jR r (a+1) [(n,a)],wm];rfl
  ·exact jR r a acc
theorem JB{x:Str}{c:Addr}:∀{names:List (Str×NameKind)}{a:Nat},(x,c)∈cellsFrom a names []->(x,NameKind.cell)∈names
 | [],a,h=>nomatch h
 | (n,k)::r,a,h=>by
  unfold cellsFrom at h;split at h
  ·rename_i hk;rw[jR,wF]at h;rcases h with h|h
   ·exact wL _ (JB h)
   ·have:(x,c)=(n,a):=wP.mp h;cases this;rw[beq_iff_eq.mp hk];exact wU
  ·exact wL _ (JB h)
theorem L8{x:Str}:∀{names:List (Str×NameKind)}{a:Nat},(x,NameKind.cell)∈names->∃c,(cellsFrom a names []).lookup x=some c
 | [],a,h=>nomatch h
 | (n,k)::r,a,h=>by
  unfold cellsFrom;rcases wJ.mp h with h|h
  ·cases h;rw[if_pos (by decide),jR,vJ];cases (cellsFrom (a+1) r []).lookup x with
   |none=>exact⟨a,by simp⟩
   |some c=>exact⟨c,rfl⟩
  ·split
   ·obtain⟨c,hc⟩:=L8 (a:=a+1) h;exact⟨c,by rw[jR,vJ,hc];rfl⟩
   ·exact L8 h
noncomputable def jB(X:Cx)(scope:Scope)(C:Addr):List (Str×Addr):=cellsFrom (C+1) scope.names (P7 X.env.cells scope.names [])
noncomputable def cxComp(X:Cx)(scope:Scope)(C:Addr)(fp:List Addr)(s₂:Shared)(H₂:Hp)(N:List Str):Cx:=
 { X with N:=N,s₀:=s₂,H₀:=H₂,env:=compEnvC scope (jB X scope C) C X.env,outer:=X.stack,ex:=fp,fn:=λx=>decide (scope.names.lookup x=some .cell),pn:=[],xe:=λ_ _=>False }
noncomputable def inner(src:List (Option Nat))(σ:St):St:=src.map λo=>match o with|none=>none|some j=>(σ[j]?).join
structure CompScope(X:Cx)(scope:Scope)(N:List Str)(src:List (Option Nat)):Prop where
 kind:scope.kind=.function
 uniq:∀y∈scope.names,scope.names.lookup y.1=some y.2
 frees:∀y∈scope.names,y.2=NameKind.free->X.env.kindOf y.1=some .cell\/X.env.kindOf y.1=some .free
 nd:N.Nodup
 len:src.length=N.length
 from_:∀(i:Nat) x j,N[i]?=some x->src[i]?=some (some j)->X.N[j]?=some x/\scope.names.lookup x=some .free
theorem qh{x:Str}{k:NameKind}:∀{names:List (Str×NameKind)},names.lookup x=some k->(x,k)∈names
 | [],h=>by simp at h
 | (n,k')::r,h=>by
  cases hx:x==n with
  |true=>
   simp only[List.lookup_cons,hx]at h;have hx':x=n:=by simpa using hx
   cases h;subst hx';exact wU
  |false=>
   simp only[List.lookup_cons,hx]at h;exact wL _ (qh h)
section
variable{X:Cx}{pins:List (Addr×Obj)}{σ:St}{H₂:Hp}{s₂:Shared}{scope:Scope}{N:List Str}{src:List (Option Nat)}{fp:List Addr}
theorem CompScope.cells(S:CompScope X scope N src)(ok:X.Ok):∀y∈scope.names,y.2=.free->∃c,X.env.cells.lookup y.1=some c:=λy hy hk=>ok.has y.1 (S.frees y hy hk)
theorem CompScope.names(S:CompScope X scope N src):∀y∈scope.names,y.2=NameKind.local->scope.names.lookup y.1=some .local:=λy hy hk=>by rw[<-hk];exact S.uniq y hy
theorem zE{C:Addr}{h₁:Heap}(ow:CellsOk h₁ (C+1) (cellsFrom (C+1) scope.names [])){x:Str}{c:Addr}(h:(jB X scope C).lookup x=some c):
  ((x,c)∈cellsFrom (C+1) scope.names []/\(x,NameKind.cell)∈scope.names/\h₁.IsCell c none/\C<c)\/X.env.cells.lookup x=some c:=by
 unfold jB at h;rw[jR,vJ]at h;cases e:(cellsFrom (C+1) scope.names []).lookup x with
 |some c'=>
  rw[e]at h;cases h;have m:=PySem.mem_of_lookup e;exact .inl ⟨m,JB m,(ow.empty x c m).1,(ow.empty x c m).2⟩
 |none=>
  rw[e]at h;rcases qA6 (show (P7 X.env.cells scope.names []).lookup x=some c by simpa using h) with h|h
  ·simp at h
  ·exact .inr h
theorem ZD(S:CompScope X scope N src){C:Addr}{x:Str}{c:Addr}(hf:scope.names.lookup x=some .free)(h:X.env.cells.lookup x=some c):(jB X scope C).lookup x=some c:=by
 unfold jB;rw[jR,vJ];have:(cellsFrom (C+1) scope.names []).lookup x=none:=by
  cases e:(cellsFrom (C+1) scope.names []).lookup x with
  |none=>rfl
  |some c'=>
   have:=S.uniq _ (JB (PySem.mem_of_lookup e));rw[hf]at this;cases this
 rw[this,qBE h (.inl (qh hf)) (by intro c' h';simp at h')];rfl
theorem qBm(S:CompScope X scope N src)(I:Inv X pins σ H₂ s₂)(f2:∀b∈fp,QJ X pins H₂ b)(ob:∀b∈fp,∃o,s₂.heap.get? b=some o/\∀v,o.data≠.cell v){C:Addr}(hC:s₂.heap.objs.size<=C){h₁:Heap}(ow:CellsOk h₁ (C+1) (cellsFrom (C+1) scope.names [])):
  (cxComp X scope C fp s₂ H₂ N).Ok:=by
 have lt:∀x c,X.env.cells.lookup x=some c->c<s₂.heap.objs.size:=λx c h=>let ⟨v,q⟩:=I.cell x c h;q.lt
 refine⟨I.ok.mod,S.kind,I.ok.glob,I.ok.blt,hC,λx y c h1 h2=>?_,λx hx=>?_,λx c hf h=>?_,I.ok.hd,I.ok.frames,.inl rfl,λb hb=>⟨?_,λx c h=>?_⟩,λb o e=>I.bs b o e,?_,λb o e hb=>?_,λb hb=>?_,I.stack,I.stkFree⟩
 ·rcases zE ow h1 with⟨m1,_,_,g1⟩|g1<;>rcases zE ow h2 with⟨m2,_,_,g2⟩|g2
  ·exact PySem.name_of_addr ow.apart m1 m2
  ·exact absurd (wz (wG (lt y c g2) hC) g1) (wp _)
  ·exact absurd (wz (wG (lt x c g1) hC) g2) (wp _)
  ·exact I.ok.inj x y c g1 g2
 ·rcases jH hx with hf|hf
  ·obtain⟨c,hc⟩:=S.cells I.ok (x,.free) (qh hf) rfl;exact⟨c,ZD S hf hc⟩
  ·obtain⟨c,hc⟩:=L8 (a:=C+1) (qh hf);exact⟨c,by show (jB X scope C).lookup x=_;unfold jB;rw[jR,vJ,hc];rfl⟩
 ·have hf':scope.names.lookup x=some .cell:=uK hf;rcases zE ow h with⟨_,_,_,g⟩|g
  ·exact vQ (vi hC g)
  ·unfold cxComp at h;have h:(jB X scope C).lookup x=some c:=h;obtain⟨c',hc'⟩:=L8 (a:=C+1) (qh hf');have e:(jB X scope C).lookup x=some c':=by unfold jB;rw[jR,vJ,hc'];rfl
   rw[e]at h;cases h;have:=(ow.empty x c (PySem.mem_of_lookup hc')).2;exact wS hC (Nat.le_of_succ_le this)
 ·obtain⟨o,e,_⟩:=ob b hb;exact wj (wG (Heap.lt_size e) hC)
 ·rcases zE ow h with⟨_,_,_,g⟩|g
  ·obtain⟨o,e,_⟩:=ob b hb;exact vR (wz (wG (Heap.lt_size e) hC) g)
  ·exact(f2 b hb).2.2.2.2.1 x c g
 ·exact wS I.ok.bsz I.sz
 ·rcases(f2 b hb).2.2.2.1 with z|z
  ·exact I.ok.noex b o e z
  ·exact absurd (wG (Heap.lt_size e) (wS I.ok.bsz z)) (wp _)
 ·intro hz;rcases wJ.mp (I.stkSub b hz) with e|e
  ·exact(f2 b hb).2.1 e
  ·exact(f2 b hb).2.2.1 e
theorem Zu(S:CompScope X scope N src)(I:Inv X pins σ H₂ s₂)(f2:∀b∈fp,QJ X pins H₂ b)(ob:∀b∈fp,∃o,s₂.heap.get? b=some o/\∀v,o.data≠.cell v){C:Addr}{h₁:Heap}{m:Str->Option Value}{tk n:Nat}
  (hC:s₂.heap.objs.size<C) (keep:∀b o,s₂.heap.get? b=some o->h₁.get? b=some o) (hD:h₁.get? s₂.heap.objs.size=some { cls:=.type "list",data:=.seq #[] n }) (hn:h₁.Ns C m) (ow:CellsOk h₁ (C+1) (cellsFrom (C+1) scope.names [])):
  Inv (cxComp X scope C fp s₂ H₂ N) [] (inner src σ) (upd H₂ s₂.heap.objs.size (.lst [])) { s₂ with heap:=h₁,toks:=tk }:=by
 have lt:∀x c,X.env.cells.lookup x=some c->c<s₂.heap.objs.size:=λx c h=>let ⟨v,q⟩:=I.cell x c h;q.lt
 have hfr:H₂ s₂.heap.objs.size=none:=I.hok.fresh (wM _);refine⟨qBm S I f2 ob (vQ hC) ow,rfl,I.bare,Un.laid keep (wM _) hfr,⟨m,hn,λi x v e1 e2 e3=>?_⟩,λx c h=>?_,?_,λx c h=>?_,λp hp=>absurd (show p∈([]:List (Addr×Obj)) from hp) (by simp),I.hok.laid keep (wM _) ⟨by simp,[],n,.nil,hD⟩,?_⟩
 ·have e2':(inner src σ)[i]?=some (some v):=e2;unfold inner at e2';rw[wg]at e2';cases q:src[i]? with
  |none=>rw[q]at e2';cases e2'
  |some o=>
   rw[q]at e2';cases o with
   |none=>cases e2'
   |some j=>
    have ej:(σ[j]?).join=some v:=Option.some.inj e2';have ej':σ[j]?=some (some v):=by
     cases z:σ[j]? with
     |none=>rw[z]at ej;cases ej
     |some w=>rw[z]at ej;exact congrArg some ej
    obtain⟨n1,n2⟩:=S.from_ i x j e1 q;obtain⟨m0,hn0,hl⟩:=I.loc;have hfr':=S.frees (x,.free) (qh n2) rfl;obtain⟨u,r,l⟩:=hl j x v n1 ej' (by rcases hfr' with z|z;exact .inr (.inl z);exact .inr (.inr z));refine⟨u,r,.inr ⟨QB n2,?_⟩⟩;rcases l with⟨k,_⟩|⟨_,c,hc,o,ho,hd⟩
    ·have k':X.env.kindOf x=some .local:=k;rcases hfr' with z|z
     ·have z':X.env.kindOf x=some .cell:=z;rw[k']at z';cases z'
     ·have z':X.env.kindOf x=some .free:=z;rw[k']at z';cases z'
    ·exact⟨c,ZD S n2 hc,o,keep c o ho,hd⟩
 ·rcases zE ow h with⟨_,_,g,_⟩|g
  ·exact⟨none,g⟩
  ·obtain⟨v,o,ho,hd⟩:=I.cell x c g;exact⟨v,o,keep c o ho,hd⟩
 ·show upd H₂ s₂.heap.objs.size (.lst []) C=none;rw[qE (vR hC)];exact I.hok.fresh (vQ hC)
 ·rcases zE ow h with⟨_,_,_,g⟩|g
  ·rw[qE (vR (wz hC g))];exact I.hok.fresh (vQ (wz hC g))
  ·rw[qE (wj (lt x c g))];exact I.freeC x c g
 ·show (inner src σ).length=N.length;unfold inner;rw[wK,S.len]
theorem JS(I:Inv X pins σ H₂ s₂)(f2:∀b∈fp,QJ X pins H₂ b){C:Addr}{pins':List (Addr×Obj)}{σ':St}{H':Hp}{s':Shared}{h':Heap}(hC:s₂.heap.objs.size<=C)(J:Inv (cxComp X scope C fp s₂ H₂ N) pins' σ' H' s')
  (kp:∀b o,b≠C->s'.heap.get? b=some o->h'.get? b=some o):Inv X pins σ H' { s' with heap:=h' }:=by
 have neC:∀b o,s₂.heap.get? b=some o->b≠C:=λb o e=>wj (wG (Heap.lt_size e) hC);have B:=J.base;refine I.call' (s':={ s' with heap:=h' }) (ch:=fp) J.os ⟨λb o e n hb hx=>kp b o (neC b o e) (B.keep b o e n hb hx),λb o e n hb hx=>?_,B.free,λb o e hx=>?_,B.tups,B.frzs,B.tbls⟩ (λa o e=>?_) J.bare λb hb=>⟨(f2 b hb).2.2.2.1,(f2 b hb).2.1,(f2 b hb).2.2.2.2⟩
 ·obtain⟨sl,q⟩:=B.slot b o e n hb hx;exact⟨sl,kp b _ (neC b o e) q⟩
 ·obtain⟨o',q⟩:=B.there b o e hx;exact⟨o',kp b o' (neC b o e) q⟩
 ·have nC:H' C=none:=J.free;have ne:∀b u,H' b=some u->b≠C:=λb u q z=>by rw[z,nC]at q;cases q
  refine(J.hok a o e).stay (λc v hc q=>kp c v ?_ q) (λ_ q=>q) λ_ _ q=>q;rcases hc with z|z
  ·rw[z];exact ne a o e
  ·exact ne c _ z
end
def PTs(X:Cx)(ifs:List Expr)(t:TT):Prop:=
 ∀(pins:List (Addr×Obj)) (s:Shared) (σ:St) (H:Hp) (Q:Bool->Hp->Prop),Inv X pins σ H s->t σ H Q ->
  wpAny (model X.prog X.w) X.A (forIn ifs true λc r=>if r=true then do let ok <- isTrue c X.env (eval c X.env);pure (ForInStep.yield ok) else pure (ForInStep.yield r)) (TP X pins σ Q) X.xe s
theorem pts_nil{X:Cx}:PTs X [] (λ_ H Q=>Q true H):=λpins s σ H Q I h=>uG ⟨H,I,h⟩
theorem pts_one{X:Cx}{c:Expr}{t:TT}(hc:PT X c t):PTs X [c] t:=by
 intro pins s σ H Q I h;rw[vz];simp only[if_true];refine uF (uF (thn (hc pins s σ H Q I h) λb s1 q=>?_));exact uG (uG q)
noncomputable def tComp(wi:TI)(src:List (Option Nat))(g:TG)(tc:TT)(te:TE):TE:=λσ H Q=>wi σ H λJ H1=>∀D,H1 D=none ->
 ∃W:Nat->Nat->List V->St->Hp->Prop,(∃m,W 0 m [] (inner src σ) (upd H1 D (.lst [])))/\∀i m ys σ' H',W i m ys σ' H'->H' D=some (.lst ys) ->
  (J.stop i H'/\Q (.ref D) H')\/
  (J.go i H'/\∀x H2,J.yld i H' x H2->g x σ' H2 λσ3 H3=>tc σ3 H3 λb H4=>
   if b=true then te σ3 H4 λy H5=>H5 D=some (.lst ys)/\ys.length<sizeLine/\∃m',m'<m/\W (i+1) m' (ys++[y]) σ3 (upd H5 D (.lst (ys++[y])))
   else H4 D=some (.lst ys)/\∃m',m'<m/\W (i+1) m' ys σ3 H4)
section
variable{X:Cx}{pins:List (Addr×Obj)}{σ:St}{H₂:Hp}{s₂:Shared}{scope:Scope}{N:List Str}{src:List (Option Nat)}
theorem B5{M:Model}{A:Around}{E:Value->Shared->Prop}{s:Shared}{scope:Scope}{globals:Addr}{cl:List (Str×Addr)}{qual:Str}{env:Env}{Q:Env->Shared->Prop}
  (h:Q (newEnv scope s.heap.objs.size globals (cellsFrom (s.heap.objs.size+1) scope.names cl) qual none .none (some env) builtinsNs) { s with heap:=pushCells (s.heap.push { cls:=.type "dict",data:=.dict #[] }) scope.names }):
  wpAny M A (newFunctionEnv scope globals cl [] qual none .none (some env)) Q E s:=by
 simp only[newFunctionEnv,Option.isSome_some,if_true];refine uF (wpAny_alloc ?_);refine uF (wpAny_layCells _ (λname kind cells=>by cases hkc:kind==NameKind.cell<;>simp[hkc]) _ _ _ _ ?_);rw[show ({ s with heap:=s.heap.push { cls:=.type "dict",data:=.dict #[] } }:Shared).heap.objs.size=s.heap.objs.size+1 from Heap.size_push ..];refine uF ?_;rw[List.forIn_nil];exact uG (uG h)
theorem L6{elt tg iter:Expr}{ifs:List Expr}{pos:Pos}{g:TG}{tc:TT}{te:TE}{it:Addr}{fp:List Addr}{tn:Nat->Heap->Prop}{J:It}{Q:VK}{E:Value->Shared->Prop}{RR:Value->Addr->Result->Shared->Prop}
  (hc:X.calm=true) (S:CompScope X scope N src) (I2:Inv X pins σ H₂ s₂) (T:ZL X.prog X.w X.K tg J fp it tn) (st2:tn 0 s₂.heap) (f2:∀b∈fp,QJ X pins H₂ b)
  (hg:∀C fp s H,PG (cxComp X scope C fp s H N) tg g) (ht:∀C fp s H,PTs (cxComp X scope C fp s H N) ifs tc) (he:∀C fp s H,PE (cxComp X scope C fp s H N) elt te)
  (h:∀D,H₂ D=none->∃W:Nat->Nat->List V->St->Hp->Prop,(∃m,W 0 m [] (inner src σ) (upd H₂ D (.lst [])))/\∀i m ys σ' H',W i m ys σ' H'->H' D=some (.lst ys) ->
   (J.stop i H'/\Q (.ref D) H')\/
   (J.go i H'/\∀x H2,J.yld i H' x H2->g x σ' H2 λσ3 H3=>tc σ3 H3 λb H4=>
    if b=true then te σ3 H4 λy H5=>H5 D=some (.lst ys)/\ys.length<sizeLine/\∃m',m'<m/\W (i+1) m' (ys++[y]) σ3 (upd H5 D (.lst (ys++[y])))
    else H4 D=some (.lst ys)/\∃m',m'<m/\W (i+1) m' ys σ3 H4))
  (hRR:∀(D C:Addr) (σ':St) (H':Hp) (s':Shared),s₂.heap.objs.size<=C->Inv (cxComp X scope C fp s₂ H₂ N) [] σ' H' s'->Q (.ref D) H'->RR (.ref D) C (.ok .next) s'):
  wpAny (model X.prog X.w) X.A (newList []) (λacc s₃=>wpAny (model X.prog X.w) X.A (newFunctionEnv scope X.env.globals (P7 X.env.cells scope.names []) [] X.env.qual none .none (some X.env)) (λcenv s₄=>
   codeAny (model X.prog X.w) X.A (.compStart (.ListComp elt [⟨tg,iter,ifs,0⟩] scope pos) 0 (.ref it) acc { cenv with scope:=relabel scope X.env }) (RR acc cenv.locals) s₄) E s₃) E s₂:=by
 refine wpAny_newObj_type (B5 ?_);dsimp only;generalize hH2:s₂.heap.push { cls:=.type "list",dict:=none,data:=.seq ([]:List Value).toArray }=P2;have hC:P2.objs.size=s₂.heap.objs.size+1:=by rw[<-hH2,Heap.size_push]
 have ow:=cellsFrom_ok scope.names (P2.push { cls:=.type "dict",data:=.dict #[] }) (P2.objs.size+1) [] ⟨λ_ _ hm=>(nomatch hm),List.Pairwise.nil⟩ (by rw[Heap.size_push];exact wM _);rw[Heap.size_push]at ow;generalize hh1:pushCells (P2.push { cls:=.type "dict",data:=.dict #[] }) scope.names=h₁ at ow ⊢;have kp:∀b o,P2.get? b=some o->h₁.get? b=some o:=λb o e=>hh1 ▸ pushCells_keeps _ _ b o (Heap.get?_push_of_some _ e);have hns₁:h₁.Ns P2.objs.size (λ_=>none):=hh1 ▸ (Heap.Ns.new P2 (.type "dict")).keeps (pushCells_keeps _ _);have old:∀b o,s₂.heap.get? b=some o->h₁.get? b=some o:=λb o e=>kp b o (hH2 ▸ Heap.get?_push_of_some _ e);have hacc:h₁.get? s₂.heap.objs.size=some { cls:=.type "list",data:=.seq #[] }:=kp _ _ (hH2 ▸ Heap.get?_push_size _ rfl);have st1:tn 0 h₁:=T.keep _ _ _ st2 λb _ o e=>old b o e;have ob:=T.obj _ _ st2;have lt:s₂.heap.objs.size<P2.objs.size:=by rw[hC];exact vp _
 have I3:=Zu (tk:=s₂.toks) S I2 f2 ob lt old hacc hns₁ ow;obtain⟨W,⟨m0,w0⟩,step⟩:=h s₂.heap.objs.size I2.fresh;have fpn:∀b∈fp,b≠s₂.heap.objs.size:=λb hb=>by
  obtain⟨o,e,_⟩:=ob b hb;exact wj (Heap.lt_size e)
 have fok:∀{pins':List (Addr×Obj)}{H':Hp},(∀b∈fp,H' b=none)->(∀p∈pins',p.1∉fp)->∀b∈fp,QJ (cxComp X scope P2.objs.size fp s₂ H₂ N) pins' H' b:=λ{pins' H'} hn hp b hb=>by
  have okc:=I3.ok;exact⟨hn b hb,(okc.exf b hb).1,okc.exfs b hb,.inl hb,(okc.exf b hb).2,λp hp' z=>hp p (by simpa [cxComp] using hp') (z ▸ hb)⟩
 have loop:∀s₃:Shared,s₃={ s₂ with heap:=h₁,toks:=s₂.toks } ->
   codeAny (model X.prog X.w) X.A (.compLoop (.ListComp elt [⟨tg,iter,ifs,0⟩] scope pos) 0 (.ref it) (.ref s₂.heap.objs.size) (compEnvC scope (jB X scope P2.objs.size) P2.objs.size X.env))
    (RR (.ref s₂.heap.objs.size) P2.objs.size) s₃:=by
  rintro s₃ rfl;refine codeAny_loop rfl (λn s'=>∃i ys σ' H',Inv (cxComp X scope P2.objs.size fp s₂ H₂ N) [] σ' H' s'/\tn i s'.heap/\(∀b∈fp,H' b=none)/\H' s₂.heap.objs.size=some (.lst ys)/\W i n ys σ' H') (λn s' hI=>?_) m0
   ⟨0,[],inner src σ,_,I3,st1,λb hb=>by rw[qE (fpn b hb)];exact(f2 b hb).1,qC,w0⟩
  obtain⟨i,ys,σ3,H3,J3,st3,fr3,hD3,w3⟩:=hI;show wpAny _ X.A ((compTurn (.ListComp elt [⟨tg,iter,ifs,0⟩] scope pos) 0 (.ref it) (.ref s₂.heap.objs.size) _).onRaise (λx=>do noteFrame x _;theTreesLotGoes x)) _ _ s';refine wpAny_noted ?_;rw[compTurn_list];have never:∀{α:Type}{t:Sem α}{Q1:α->Shared->Prop}{E1:Value->Shared->Prop}{s1:Shared},wpAny (model X.prog X.w) X.A t Q1 (λ_ _=>False) s1->wpAny (model X.prog X.w) X.A t Q1 E1 s1:=λh=>wpAny_mono h (λ_ _ q=>q) λ_ _ f=>f.elim;refine uF (wpAny_standAt (uF ?_));rcases step i n ys σ3 H3 w3 hD3 with⟨stop,qn⟩|⟨go,l6⟩
  ·refine never (thn (T.done (cxComp X scope P2.objs.size fp s₂ H₂ N) rfl rfl rfl hc i [] s' σ3 H3 _ J3 (fok fr3 (by simp)) st3 stop) λr s4 ⟨hr,I4⟩=>?_);subst hr;exact uG (hRR _ _ σ3 H3 s4 (vQ lt) I4 qn)
  ·refine never (thn (T.item (cxComp X scope P2.objs.size fp s₂ H₂ N) rfl rfl rfl hc i [] s' σ3 H3 _ J3 (fok fr3 (by simp)) st3 go) λr s4 ⟨u,hr,h4⟩=>?_);subst hr;refine uF (never (thn h4 λ_ s5 ⟨x,H5,I5,r5,y5,st5,fr5⟩=>?_));have I5':=I5.pinned (fok fr5 (by simp)) (T.obj _ _ st5);have kept:∀{σ7:St}{H7:Hp}{s7:Shared},Inv (cxComp X scope P2.objs.size fp s₂ H₂ N) ([]++ZV fp s5.heap) σ7 H7 s7->Inv (cxComp X scope P2.objs.size fp s₂ H₂ N) [] σ7 H7 s7/\tn (i+1) s7.heap/\∀b∈fp,H7 b=none:=λ{σ7 H7 s7} I7=>by
    refine⟨I7.unpinned,T.keep _ _ _ st5 λb hb o e=>(I7.pin (b,o) (wQ _ (wQ _ (zV hb e)))).1,λb hb=>?_⟩;obtain⟨o,e,d⟩:=T.obj _ _ st5 b hb;exact(I7.pin (b,o) (wQ _ (wQ _ (zV hb e)))).2.1
   refine uF (never (thn (hg _ _ _ _ _ s5 σ3 H5 x u _ I5' r5 (l6 x H5 y5)) λ_ s6 ⟨σ6,H6,I6,q6⟩=>?_));refine uF (never (thn (ht _ _ _ _ _ s6 σ6 H6 _ I6 q6) λb s7 ⟨H7,I7,q7⟩=>?_));cases b with
   |false=>
    rw[if_neg (by decide)]at q7;obtain⟨hD7,m',hm,w7⟩:=q7;obtain⟨I7',st7,fr7⟩:=kept I7;exact uG ⟨rfl,m',hm,i+1,ys,σ6,H7,I7',st7,fr7,hD7,w7⟩
   |true=>
    rw[if_pos rfl]at q7;refine uF (uF (never (thn (he _ _ _ _ _ s7 σ6 H7 _ I7 q7) λyv s8 ⟨y,H8,I8,r8,hD8,hz,m',hm,w8⟩=>?_)));refine uF (never (thn (mt_append (X:=cxComp X scope P2.objs.size fp s₂ H₂ N) _ s8 σ6 H8 (.ref s₂.heap.objs.size) [y] _ [yv] (λv H'=>v=.non/\H'=upd H8 s₂.heap.objs.size (.lst (ys++[y]))) I8 rfl (.cons r8 .nil) ⟨_,ys,y,rfl,rfl,hD8,hz,rfl,rfl⟩) λ_ s9 ⟨v9,H9,I9,_,_,e9⟩=>?_));subst e9;obtain⟨I9',st9,fr9⟩:=kept I9;exact uG (uG ⟨rfl,m',hm,i+1,_,σ6,_,I9',st9,fr9,qC,w8⟩)
 exact codeAny_compStart_list (loop _ rfl) (T.self _ 0 _ _ _ st1 (loop _ rfl))
end
section
variable{X:Cx}{scope:Scope}{N:List Str}{src:List (Option Nat)}{elt tg iter:Expr}{ifs:List Expr}{pos:Pos}{wi:TI}{g:TG}{tc:TT}{te:TE}
theorem pe_comp(hc:X.calm=true)(hi:_P X tg iter wi)(S:CompScope X scope N src)
  (hg:∀C fp s H,PG (cxComp X scope C fp s H N) tg g) (ht:∀C fp s H,PTs (cxComp X scope C fp s H N) ifs tc) (he:∀C fp s H,PE (cxComp X scope C fp s H N) elt te)
  (hs:∀x,foldedSetIterable iter X.env x=pure x:=by intro _;rfl):PE X (.ListComp elt [⟨tg,iter,ifs,0⟩] scope pos) (tComp wi src g tc te):=by
 intro pins s σ H Q I h;rw[eval_ListComp];refine wpAny_comprehension_free (use:=none) rfl hs (zz (S.cells I.ok)) S.kind S.names (thn (hi pins s σ H _ I h) λv s1 h1=>thn h1 λitv s2 h2=>?_);obtain⟨it,fp,tn,J,H2,rfl,I2,T,st2,f2,hW⟩:=h2;refine L6 (Q:=Q) (RR:=λacc C=>compPost (model X.prog X.w) X.A X.xe none (EP X pins σ Q) acc C) hc S I2 T st2 f2 hg ht he hW ?_;intro D C σ' H' s' hC J q;obtain⟨m,hn,_⟩:=id J.loc;exact⟨m,hn,λh' hs'=>⟨.ref D,H',JS I2 f2 hC J (λb o hb e=>hs'.extBut b o hb e),rfl,q⟩⟩
theorem ps_setcomp{i:Nat}{x:Str}{pos' spos:Pos}(hc:X.calm=true)(hi:_P X tg iter wi)(S:CompScope X scope N src)
  (hg:∀C fp s H,PG (cxComp X scope C fp s H N) tg g) (ht:∀C fp s H,PTs (cxComp X scope C fp s H N) ifs tc) (he:∀C fp s H,PE (cxComp X scope C fp s H N) elt te)
  (hsw:swapsWith (.ListComp elt [⟨tg,iter,ifs,0⟩] scope pos) (some (.Name x pos')) spos.line X.env=pure true)
  (hN:X.N.Nodup) (hx:X.N[i]?=some x) (hl:X.env.scope.names.lookup x=some .local)
  (hs:∀x,foldedSetIterable iter X.env x=pure x:=by intro _;rfl):PS X (.Assign [.Name x pos'] (.ListComp elt [⟨tg,iter,ifs,0⟩] scope pos) spos) (tAsg (tComp wi src g tc te) (qCn i)):=by
 intro pins s σ H D I h;rw[exec_Assign_Name_used _ _ _ _ hsw];refine uF (wpAny_standAt (uF ?_));show wpAny _ X.A (do let _ <- comprehension (.ListComp elt [⟨tg,iter,ifs,0⟩] scope pos) scope X.env _ (newList []) false (eval iter X.env) (some (assign (.Name x pos') X.env))) _ _ s;refine uF (wpAny_mono (wpAny_comprehension_free (use:=some (assign (.Name x pos') X.env)) (Q:=λ_ s'=>SP X pins D .next s') rfl hs (zz (S.cells I.ok)) S.kind S.names
  (thn (hi pins s σ H _ I h) λv s1 h1=>thn h1 λitv s2 h2=>?_)) (λ_ s' hq=>uG (uG hq)) λ_ _ e=>e)
 obtain⟨it,fp,tn,J,H2,rfl,I2,T,st2,f2,hW⟩:=h2;refine L6 (Q:=λv H'=>D.nx (σ.set i (some v)) H') (RR:=λacc C=>compPost (model X.prog X.w) X.A X.xe (some (assign (.Name x pos') X.env)) (λ_ s'=>SP X pins D .next s') acc C) hc S I2 T st2 f2 hg ht he hW ?_;intro L C σ' H' s' hC J q;obtain⟨m,hn,_⟩:=id J.loc;have I3:Inv X pins σ H' s':=JS (h':=s'.heap) I2 f2 hC J (λb o hb e=>e);show wpAny _ X.A (assign (.Name x pos') X.env (.ref L)) _ _ _;have nL:X.env.locals≠C:=wj (wG I2.lt hC);refine wpAny_assign_Name (JL I3 hN hx (.inl hl) (show RelV (.ref L) (.ref L) from rfl) (λs4 I4 hsb=>?_) (.inr hl));obtain⟨a,sb,ha⟩:=hsb;have ha':a≠C:=by
  rcases ha with z|z
  ·rw[z];exact nL
  ·obtain⟨v,hv⟩:=I2.cell x a z;exact wj (wG hv.lt hC)
 refine⟨m,hn.sameBut sb (Ne.symm ha'),λh5 sb5=>?_⟩;have I5:Inv X pins (σ.set i (some (V.ref L))) H' { s4 with heap:=h5,toks:=s4.toks }:=I4.turned (it:=C) (λb o hb e=>sb5.extBut b o hb e) J.free (Ne.symm nL) (.inr (wS I2.sz hC)) (λy c e z=>by
   obtain⟨v,hv⟩:=I2.cell y c e;exact absurd (wG hv.lt (by rw[z];exact hC)) (wp _)) λp hp z=>absurd (wG (Heap.lt_size (I2.pin p hp).1) (by rw[z];exact hC)) (wp _)
 exact⟨_,H',I5,q⟩
end
end _L
namespace _P
open _L (V Key)
open PySem (Str)
inductive BOp|add|sub|mul|fdiv|mod|pow|band|shl|shr|bxor
 deriving DecidableEq
inductive COp|lt|le|gt|ge|eq|ne|inn|notin|is|isnot
 deriving DecidableEq
inductive BF|len|sum|all|max|min|list|int|bits|maxl
 deriving DecidableEq
inductive Tg|name(i:Nat)|tup(is:List Nat)
 deriving DecidableEq
set_option genInjectivity false
mutual
inductive E
 |var (i:Nat)|cst (v:V)|glob (g:Nat)
 |bin (op:BOp) (a b:E)|neg (a:E)
 |cmp (op:COp) (a b:E)|cmp2 (o1 o2:COp) (a b c:E)
 |and (a b:E)|or (a b:E)|not (a:E)|ite (c a b:E)
 |call (f:Nat) (as:Es)|blt (f:BF) (as:Es)|isi (a:E) (ts:List String)
 |idx (a b:E)|sl (a:E) (lo hi:Es)  | index (a b:E)|lst (as:Es)|tup (as:Es)
 |comp (it:Itr) (src:List (Option Nat)) (g:Tg) (c:Es) (e:E)
 |app (a b:E)  | dnew          | dzip (a b:E)   | dlst (a:E)|dix (a b:E)
inductive Es|nil|cons(a:E)(as:Es)
inductive Itr|list(a:E)|rng1(a:E)   | enum(a:E)
end
mutual
inductive S
 |asg (g:Tg) (e:E)  | put (o i v:E)
 |expr (e:E)|ret (e:E)  | ifs (c:E) (t u:Ss)
 |for_ (g:Tg) (it:Itr) (b:Ss)     | stop
       |dfor (x d:Nat) (b:Ss)|orc
inductive Ss|nil|cons(s:S)(r:Ss)
end
set_option genInjectivity true
noncomputable def ZZ:Ss->Bool
 | .cons .orc _=>true
 |_=>false
noncomputable def Es.snoc:Es->E->Es
 | .nil,e=>.cons e .nil
 | .cons a as,e=>.cons a (Es.snoc as e)
inductive Ob|dct(kvs:List (Int×V))|exn(c:Str)|fdc(kvs:List (Int×V))
 deriving DecidableEq
inductive O|lst(fz:Bool)(xs:List V)|tup(xs:List V)|ob(o:Ob)
 deriving DecidableEq
noncomputable abbrev AH:=List O
noncomputable abbrev St:=List (Option V)
inductive Res(α:Type)|ok(a:α)|exc(c:Nat)(h:AH)|stuck
noncomputable def Res.bind{α β:Type}:Res α->(α->Res β)->Res β
 | .ok a,f=>f a
 | .exc c h,_=>.exc c h
 | .stuck,_=>.stuck
noncomputable def Res.nx{α:Type}:Res α->Res α
 | .ok a=>.ok a
 | .exc _ _=>.stuck
 | .stuck=>.stuck
@[simp] theorem tF{α β:Type}(a:α)(f:α->Res β):(Res.ok a).bind f=f a:=rfl
noncomputable abbrev RV:=Res (V×AH)
noncomputable def items(h:AH)(a:Nat):Option (List V):=match h[a]? with
 |some (.lst _ xs)=>some xs
 |some (.tup xs)=>some xs
 |_=>none
noncomputable def qO(h:AH)(a:Nat):Option (List V):=match h[a]? with
 |some (.lst _ xs)=>some xs
 |_=>none
noncomputable def qX(h:AH)(a:Nat):Option (List V):=match h[a]? with
 |some (.tup xs)=>some xs
 |_=>none
noncomputable def zU(h:AH)(a:Nat):Option (List (Int×V)):=match h[a]? with
 |some (.ob (.dct kvs))=>some kvs
 |_=>none
noncomputable def J4(h:AH)(a:Nat):Option (List (Int×V)):=match h[a]? with
 |some (.ob (.dct kvs))=>some kvs
 |some (.ob (.fdc kvs))=>some kvs
 |_=>none
noncomputable def Qz(kvs:List (Int×V))(k:Int):Bool:=kvs.any λp=>decide (p.1=k)
noncomputable def QF(kvs:List (Int×V))(k:Int)(v:V):List (Int×V):=if Qz kvs k=true then kvs.map (λp=>if p.1=k then (p.1,v) else p) else kvs++[(k,v)]
noncomputable def QI(kvs:List (Int×V))(k:Int):Option V:=(kvs.find? λp=>decide (p.1=k)).map (·.2)
noncomputable def zA(kvs more:List (Int×V)):List (Int×V):=more.foldl (λacc p=>QF acc p.1 p.2) kvs
noncomputable def qEH(h:AH)(a:Nat):Option Str:=match h[a]? with
 |some (.ob (.exn c))=>some c
 |_=>none
noncomputable def qz(h:AH)(a:Nat):Option (List V):=match h[a]? with
 |some (.lst false xs)=>some xs
 |_=>none
noncomputable def lim:Nat:=100000
noncomputable def newL(xs:List V)(h:AH):RV:=.ok (.ref h.length,h++[.lst false xs])
noncomputable def newT(xs:List V)(h:AH):RV:=.ok (.ref h.length,h++[.tup xs])
noncomputable def flat:V->Bool
 | .non=>true | .bl _=>true | .int _=>true | .str _=>true|_=>false
noncomputable def eqF:V->V->Option Bool
 | .int i,.int j=>some (i==j)
 | .bl i,.bl j=>some (i==j)
 | .str i,.str j=>some (i==j)
 | .non,.non=>some true
 | .int i,.bl b=>some (i==(if b then 1 else 0))
 | .bl b,.int i=>some ((if b then 1 else 0)==i)
 | .non,.int _=>some false | .int _,.non=>some false
 | .non,.bl _=>some false | .bl _,.non=>some false
 | .non,.str _=>some false | .str _,.non=>some false
 | .int _,.str _=>some false | .str _,.int _=>some false
 | .bl _,.str _=>some false | .str _,.bl _=>some false
 |_,_=>none
noncomputable def Qx(f:V->V->Option Bool):List V->List V->Option (List Bool)
 | [],[]=>some []
 |x::xs,y::ys=>match f x y,Qx f xs ys with
  |some b,some bs=>some (b::bs)
  |_,_=>none
 |_,_=>none
noncomputable def eqD(h:AH):Nat->V->V->Option Bool
 | 0,x,y=>eqF x y
 |n+1,.ref a,.ref b=>match h[a]?,h[b]? with
  |some (.lst _ xs),some (.lst _ ys)=>if a=b then some true else if xs.length=ys.length then (Qx (eqD h n) xs ys).map λbs=>bs.all id else some false
  |some (.tup xs),some (.tup ys)=>if a=b then some true else if xs.length=ys.length then (Qx (eqD h n) xs ys).map λbs=>bs.all id else (Qx (eqD h n) (xs.take ys.length) (ys.take xs.length)).map λ_=>false
  |some (.lst _ _),some (.tup _)=>some false
  |some (.tup _),some (.lst _ _)=>some false
  |_,_=>none
 |_+1,.ref a,y=>if (items h a).isSome&&flat y then some false else none
 |_+1,x,.ref b=>if flat x&&(items h b).isSome then some false else none
 |_+1,x,y=>eqF x y
noncomputable abbrev ixN(n:Nat)(i:Int):Option Nat:=_L.ixN n i
noncomputable abbrev cut(xs:List V)(lo hi:Option Int):List V:=_L.cutV xs lo hi
noncomputable def two64:Int:=18446744073709551616
noncomputable def QG(i:Int):Bool:=decide (-two64<i/\i<two64)
noncomputable def mid(i:Int):Bool:=decide (i.natAbs.log2<9000)
noncomputable def K7(x y:V)(f:Int->Int->RV):RV:=match x with
 | .int i=>(match y with | .int j=>f i j|_=>.stuck)
 |_=>.stuck
theorem qr{x y:V}{f:Int->Int->RV}{r:V×AH}(e:K7 x y f=.ok r):∃i j,x=.int i/\y=.int j/\f i j=.ok r:=by
 unfold K7 at e;split at e
 ·split at e
  ·exact⟨_,_,rfl,rfl,e⟩
  ·cases e
 ·cases e
noncomputable def C2(x:V)(f:Nat->RV):RV:=match x with
 | .ref a=>f a
 |_=>.stuck
theorem qq{x:V}{f:Nat->RV}{r:V×AH}(e:C2 x f=.ok r):∃a,x=.ref a/\f a=.ok r:=by
 unfold C2 at e;split at e
 ·exact⟨_,rfl,e⟩
 ·cases e
noncomputable def qEM:BOp->V->V->AH->RV
 | .add,x,y,h=>(match x with
  | .ref a=>C2 y λb=>(match qz h a,qz h b with
   |some xs,some ys=>if xs.length+ys.length<=lim then newL (xs++ys) h else .stuck
   |_,_=>(match qX h a,qX h b with
    |some xs,some ys=>if xs≠[]/\xs.length+ys.length<=lim then (if ys=[] then .ok (.ref a,h) else newT (xs++ys) h) else .stuck
    |_,_=>.stuck))
  |x=>K7 x y λi j=>.ok (.int (i+j),h))
 | .sub,x,y,h=>K7 x y λi j=>.ok (.int (i-j),h)
 | .mul,x,y,h=>(match x with
  | .ref a=>(match y with
   | .int k=>(match qz h a with
    |some xs=>if 0<=k/\xs.length*k.toNat<=lim/\k<1000000 then newL (List.replicate k.toNat xs).flatten h else .stuck
    |none=>.stuck)
   |_=>.stuck)
  |x=>K7 x y λi j=>if QG i||QG j||(mid i&&mid j) then .ok (.int (i*j),h) else .stuck)
 | .fdiv,x,y,h=>K7 x y λi j=>if 0<j/\(j<1073741824\/mid j=true) then .ok (.int (i / j),h) else if j<0/\mid j=true then .ok (.int (i.fdiv j),h) else .stuck
 | .mod,x,y,h=>K7 x y λi j=>if 0<j then .ok (.int (i % j),h) else if j<0 then .ok (.int (i.fmod j),h) else .stuck
 | .pow,x,y,h=>K7 x y λi j=>if 0<=j/\j<=1000/\i.natAbs<18446744073709551616 then .ok (.int (i ^ j.toNat),h) else .stuck
 | .band,x,y,h=>K7 x y λi j=>.ok (.int (PySem.Builtin.bitAnd i j),h)
 | .shl,x,y,h=>K7 x y λi j=>if 0<=j/\j<=1000/\i.natAbs<18446744073709551616 then .ok (.int (i*2 ^ j.toNat),h) else .stuck
 | .shr,x,y,h=>K7 x y λi j=>if 0<=j/\j<=1000 then .ok (.int (i / 2 ^ j.toNat),h) else .stuck
 | .bxor,x,y,h=>K7 x y λi j=>.ok (.int (PySem.Builtin.bitXor i j),h)
noncomputable def qCe(x y:V)(f:Int->Int->Bool):Option Bool:=match x with
 | .int i=>(match y with | .int j=>some (f i j)|_=>none)
 |_=>none
theorem QL{x y:V}{f:Int->Int->Bool}{r:Bool}(e:qCe x y f=some r):∃i j,x=.int i/\y=.int j/\f i j=r:=by
 unfold qCe at e;split at e
 ·split at e
  ·exact⟨_,_,rfl,rfl,Option.some.inj e⟩
  ·cases e
 ·cases e
noncomputable def l8(y:V)(f:Nat->Option Bool):Option Bool:=match y with
 | .ref a=>f a
 |_=>none
theorem L3{y:V}{f:Nat->Option Bool}{r:Bool}(e:l8 y f=some r):∃a,y=.ref a/\f a=some r:=by
 unfold l8 at e;split at e
 ·exact⟨_,rfl,e⟩
 ·cases e
noncomputable def isC(x y:V)(f:Bool->Bool):Option Bool:=match y with
 | .non=>some (f (decide (x=.non)))
 | .bl d=>(match x with | .bl c=>some (f (c==d))|_=>none)
 |_=>none
theorem W7{x y:V}{f:Bool->Bool}{r:Bool}(e:isC x y f=some r):(y=.non/\f (decide (x=.non))=r)\/∃c d,x=.bl c/\y=.bl d/\f (c==d)=r:=by
 unfold isC at e;split at e
 ·exact .inl ⟨rfl,Option.some.inj e⟩
 ·split at e
  ·exact .inr ⟨_,_,rfl,rfl,Option.some.inj e⟩
  ·cases e
 ·cases e
noncomputable def P5:COp->V->V->AH->Option Bool
 | .lt,x,y,_=>qCe x y λi j=>decide (i<j)
 | .le,x,y,_=>qCe x y λi j=>decide (i<=j)
 | .gt,x,y,_=>qCe x y λi j=>decide (j<i)
 | .ge,x,y,_=>qCe x y λi j=>decide (j<=i)
 | .eq,x,y,h=>eqD h 4 x y
 | .ne,x,y,h=>(eqD h 4 x y).map (!·)
 | .inn,x,y,h=>l8 y λa=>(match items h a with
  |some xs=>if flat x&&xs.all flat then some (xs.any λy=>_L.eqV y x) else none
  |none=>match zU h a with
   |some kvs=>(match x with | .int i=>some (Qz kvs i)|_=>none)
   |none=>none)
 | .notin,x,y,h=>l8 y λa=>(match items h a with
  |some xs=>if flat x&&xs.all flat then some (!(xs.any λy=>_L.eqV y x)) else none
  |none=>match zU h a with
   |some kvs=>(match x with | .int i=>some (!Qz kvs i)|_=>none)
   |none=>none)
 | .is,x,y,_=>isC x y id
 | .isnot,x,y,_=>isC x y (!·)
noncomputable def qA1(op:COp)(x y:V)(h:AH):RV:=match P5 op x y h with
 |some b=>.ok (.bl b,h)
 |none=>.stuck
noncomputable def zy:List V->Option (List Int)
 | []=>some []
 | .int i::r=>(zy r).map (i::·)
 |_::_=>none
noncomputable def jx:List V->Option (List Bool)
 | []=>some []
 | .bl b::r=>(jx r).map (b::·)
 |_::_=>none
noncomputable def jD:List V->Option (List Int)
 | []=>some []
 | .int i::r=>(jD r).map (i::·)
 | .bl b::r=>(jD r).map ((if b=true then 1 else 0)::·)
 |_::_=>none
noncomputable def uniq(is:List Int):List Int:=is.foldl PyProof.Rows.step_dedup []
noncomputable def ins(x:Int):List Int->List Int
 | []=>[x]
 |y::r=>if x<=y then x::y::r else y::ins x r
noncomputable def qCP:List Int->Option Int
 | []=>none
 |x::r=>match qCP r with|some y=>some (if x<=y then y else x)|none=>some x
theorem j7:∀{l:List Int}{k:Int},qCP l=some k->k∈l/\∀a∈l,a<=k
 | [],k,e=>by cases e
 |x::r,k,e=>by
  unfold qCP at e;split at e
  ·rename_i y ey;obtain⟨h1,h2⟩:=j7 ey;cases e;split
   ·rename_i q;exact⟨wL _ h1,λa ha=>by rcases wJ.mp ha with rfl|ha;exact q;exact h2 a ha⟩
   ·rename_i q;exact⟨wU ..,λa ha=>by rcases wJ.mp ha with rfl|ha;exact Int.le_refl _;have:=h2 a ha;omega⟩
  ·rename_i ey;cases e;cases r with
   |nil=>exact⟨wU ..,λa ha=>by rw[wP.mp ha];exact Int.le_refl _⟩
   |cons z r=>unfold qCP at ey;split at ey<;>cases ey
noncomputable def one(as:List V)(f:V->RV):RV:=match as with
 | [a]=>f a
 |_=>.stuck
theorem jX{as:List V}{f:V->RV}{r:V×AH}(e:one as f=.ok r):∃a,as=[a]/\f a=.ok r:=by
 unfold one at e;split at e
 ·exact⟨_,rfl,e⟩
 ·cases e
noncomputable def two(as:List V)(f:V->V->RV):RV:=match as with
 | [a,b]=>f a b
 |_=>.stuck
theorem two_inv{as:List V}{f:V->V->RV}{r:V×AH}(e:two as f=.ok r):∃a b,as=[a,b]/\f a b=.ok r:=by
 unfold two at e;split at e
 ·exact⟨_,_,rfl,e⟩
 ·cases e
noncomputable def qEe:BF->List V->AH->RV
 | .len,as,h=>one as λx=>C2 x λa=>(match items h a with|some xs=>.ok (.int xs.length,h)|none=>(match zU h a with|some kvs=>.ok (.int kvs.length,h)|none=>.stuck))
 | .sum,as,h=>one as λx=>C2 x λa=>(match qO h a with
  |some xs=>match jD xs with|some is=>.ok (.int is.sum,h)|none=>.stuck
  |none=>.stuck)
 | .all,as,h=>one as λx=>C2 x λa=>(match qO h a with
  |some xs=>match jx xs with|some bs=>.ok (.bl (bs.all id),h)|none=>.stuck
  |none=>.stuck)
 | .max,as,h=>two as λx y=>K7 x y λi j=>.ok (.int (if j>i then j else i),h)
 | .min,as,h=>two as λx y=>K7 x y λi j=>.ok (.int (if j<i then j else i),h)
 | .list,as,h=>one as λx=>C2 x λa=>(match items h a with|some xs=>newL xs h|none=>.stuck)
 | .int,as,h=>one as λx=>(match x with | .int i=>.ok (.int i,h) | .bl b=>.ok (.int (if b then 1 else 0),h)|_=>.stuck)
 | .maxl,as,h=>one as λx=>C2 x λa=>(match qO h a with
  |some xs=>match (zy xs).bind qCP with|some k=>.ok (.int k,h)|none=>.stuck
  |none=>.stuck)
 | .bits,as,h=>one as λx=>(match x with | .int i=>.ok (.int ((PySem.Builtin.Int.intBits i:Nat):Int),h)|_=>.stuck)
noncomputable def E.isGlob:E->Bool
 | .glob _=>true
 |_=>false
noncomputable def qBt(g:Bool)(h:AH)(a:Nat):Option (List V):=if g=true then qX h a else qO h a
noncomputable def D9(g:Bool)(p:Nat)(y:V)(h:AH):RV:=match qBt g h p with
 |some xs=>if (flat y&&xs.all flat)=true then (match xs.findIdx? (λz=>_L.eqV z y) with|some j=>.ok (.int j,h)|none=>.stuck) else .stuck
 |none=>.stuck
noncomputable def zj(h:AH):V->Option String
 | .non=>some "NoneType"
 | .bl _=>some "bool"
 | .int _=>some "int"
 | .str _=>some "str"
 | .ref a=>match h[a]? with|some (.lst _ _)=>some "list" | some (.tup _)=>some "tuple" | some (.ob (.dct _))=>some "dict" | _=>none
 |_=>none
noncomputable def jY(t c:String):Bool:=t==c||(t=="bool"&&c=="int")
inductive Src|list(a:Nat)|tupl(a:Nat)|rng(lo:Int)(n:Nat)|enum(a:Nat)
noncomputable def Jc(h:AH):Src->Option Nat
 | .list a=>(qO h a).map List.length
 | .tupl a=>(qX h a).map List.length
 | .rng _ n=>some n
 | .enum a=>(qO h a).map List.length
noncomputable def qi(h:AH)(i:Nat):Src->Option (V×AH)
 | .list a=>match qO h a with|some xs=>xs[i]?.map λx=>(x,h)|none=>none
 | .tupl a=>match qX h a with|some xs=>xs[i]?.map λx=>(x,h)|none=>none
 | .rng lo n=>if i<n then some (.int (lo+(i:Int)),h) else none
 | .enum a=>match qO h a with|some xs=>xs[i]?.map λx=>(.ref h.length,h++[.tup [.int (i:Int),x]])|none=>none
noncomputable def jF(h:AH)(i:Nat):Src->Bool
 | .list a=>match qO h a with|some xs=>decide (xs.length<=i)|none=>false
 | .tupl a=>match qX h a with|some xs=>decide (xs.length<=i)|none=>false
 | .rng _ n=>decide (n<=i)
 | .enum a=>match qO h a with|some xs=>decide (xs.length<=i)|none=>false
noncomputable def ZI:List Nat->List V->St->Option St
 | [],[],σ=>some σ
 |i::is,x::xs,σ=>ZI is xs (σ.set i (some x))
 |_,_,_=>none
noncomputable def store:Tg->V->St->AH->Option St
 | .name i,v,σ,_=>some (σ.set i (some v))
 | .tup is,.ref a,σ,h=>match qX h a with|some xs=>ZI is xs σ | none=>none
 | .tup _,_,_,_=>none
noncomputable def Jp(s:Src)(g:Tg)(c:St->AH->Res (Bool×AH))(e:St->AH->RV)(D:Nat):Nat->Nat->List V->St->AH->RV
 | 0,i,_,_,h=>if jF h i s then .ok (.ref D,h) else .stuck
 |n+1,i,ys,σ,h=>match qi h i s with
  |some (x,h1)=>match store g x σ h1 with
   |some σ1=>(c σ1 h1).bind λ(b,h2)=>
    if b then (e σ1 h2).bind λ(y,h3)=>if h3[D]?=some (.lst false ys)/\ys.length<lim then Jp s g c e D n (i+1) (ys++[y]) σ1 (h3.set D (.lst false (ys++[y]))) else .stuck
    else if h2[D]?=some (.lst false ys) then Jp s g c e D n (i+1) ys σ1 h2 else .stuck
   |none=>.stuck
  |none=>.stuck
noncomputable def asB(r:RV):Res (Bool×AH):=r.bind λ(v,h)=>match v with | .bl b=>.ok (b,h)|_=>.stuck
section
variable (F:Nat->List V->AH->RV)
mutual
noncomputable def ev:E->St->AH->RV
 | .var i=>λσ h=>match σ[i]? with|some (some v)=>.ok (v,h)|_=>.stuck
 | .cst v=>λ_ h=>.ok (v,h)
 | .glob g=>λ_ h=>.ok (.ref g,h)
 | .bin op a b=>λσ h=>(ev a σ h).bind λ(x,h1)=>(ev b σ h1).bind λ(y,h2)=>qEM op x y h2
 | .neg a=>λσ h=>(ev a σ h).bind λ(x,h1)=>match x with | .int i=>.ok (.int (-i),h1)|_=>.stuck
 | .cmp op a b=>λσ h=>(ev a σ h).bind λ(x,h1)=>(ev b σ h1).bind λ(y,h2)=>qA1 op x y h2
 | .cmp2 o1 o2 a b c=>λσ h=>(ev a σ h).bind λ(x,h1)=>(ev b σ h1).bind λ(y,h2)=>match P5 o1 x y h2 with
  |some true=>(ev c σ h2).bind λ(z,h3)=>qA1 o2 y z h3
  |some false=>.ok (.bl false,h2)
  |none=>.stuck
 | .and a b=>λσ h=>(asB (ev a σ h)).bind λ(x,h1)=>if x then ev b σ h1 else .ok (.bl false,h1)
 | .or a b=>λσ h=>(asB (ev a σ h)).bind λ(x,h1)=>if x then .ok (.bl true,h1) else ev b σ h1
 | .not a=>λσ h=>(asB (ev a σ h)).bind λ(x,h1)=>.ok (.bl (!x),h1)
 | .ite c a b=>λσ h=>(asB (ev c σ h)).bind λ(x,h1)=>if x then ev a σ h1 else ev b σ h1
 | .call f as=>λσ h=>(evs as σ h).bind λ(xs,h1)=>(F f xs h1).nx
 | .blt f as=>λσ h=>(evs as σ h).bind λ(xs,h1)=>qEe f xs h1
 | .isi a ts=>λσ h=>(ev a σ h).bind λ(x,h1)=>match zj h1 x with|some t=>.ok (.bl (ts.any (jY t)),h1)|none=>.stuck
 | .idx a b=>λσ h=>(ev a σ h).bind λ(x,h1)=>(ev b σ h1).bind λ(y,h2)=>match x,y with
  | .ref p,.int i=>match items h2 p with
   |some xs=>match (ixN xs.length i).bind λj=>xs[j]? with|some v=>.ok (v,h2)|none=>.stuck
   |none=>.stuck
  |_,_=>.stuck
 | .index a b=>λσ h=>(ev a σ h).bind λ(x,h1)=>C2 x λp=>(match qBt a.isGlob h1 p with
  |some _=>(ev b σ h1).bind λ(y,h2)=>D9 a.isGlob p y h2
  |none=>.stuck)
 | .sl a lo hi=>λσ h=>(ev a σ h).bind λ(x,h1)=>(evs lo σ h1).bind λ(l,h2)=>(evs hi σ h2).bind λ(u,h3)=>
  match x,zy l,zy u with
  | .ref p,some l,some u=>match qO h3 p with
   |some xs=>newL (cut xs l.head? u.head?) h3
   |none=>match qX h3 p with
    |some xs=>if _H.sIx xs.length 0 l.head?=0/\_H.sIx xs.length xs.length u.head?=xs.length then .stuck else newT (cut xs l.head? u.head?) h3
    |none=>.stuck
  |_,_,_=>.stuck
 | .lst as=>λσ h=>(evs as σ h).bind λ(xs,h1)=>if xs.length<=lim then newL xs h1 else .stuck
 | .tup as=>λσ h=>(evs as σ h).bind λ(xs,h1)=>if xs.length<=lim then newT xs h1 else .stuck
 | .comp it src g c e=>λσ h=>(evi it σ h).bind λ(s,h1)=>match Jc (h1++[.lst false []]) s with
  |some n=>Jp s g (evc c) (ev e) h1.length n 0 [] (_L.inner src σ) (h1++[.lst false []])
  |none=>.stuck
 | .app a b=>λσ h=>(ev a σ h).bind λ(x,h1)=>match x with
  | .ref p=>(match qO h1 p with
   |some _=>(ev b σ h1).bind λ(y,h2)=>match qz h2 p with
    |some xs=>if xs.length<lim then .ok (.non,h2.set p (.lst false (xs++[y]))) else .stuck
    |none=>.stuck
   |none=>.stuck)
  |_=>.stuck
 | .dix a b=>λσ h=>(ev a σ h).bind λ(x,h1)=>(ev b σ h1).bind λ(y,h2)=>C2 x λp=>(match y with
  | .int i=>(match J4 h2 p with|some kvs=>(match QI kvs i with|some v=>.ok (v,h2)|none=>.stuck)|none=>.stuck)
  |_=>.stuck)
 | .dzip a b=>λσ h=>(ev a σ h).bind λ(x,h1)=>(ev b σ h1).bind λ(y,h2)=>C2 x λp=>C2 y λq=>(match qO h2 p with
  |some xs=>(match qO h2 q with
   |some ys=>(match zy xs with
    |some is=>if is.length<=lim/\ys.all flat=true then .ok (.ref h2.length,h2++[.ob (.dct (zA [] (is.zip ys)))]) else .stuck
    |none=>.stuck)
   |none=>.stuck)
  |none=>.stuck)
 | .dlst a=>λσ h=>(ev a σ h).bind λ(x,h1)=>C2 x λp=>(match zU h1 p with|some kvs=>if kvs.length<=lim then newL (kvs.map λq=>V.int q.1) h1 else .stuck|none=>.stuck)
 | .dnew=>λ_ h=>.ok (.ref h.length,h++[.ob (.dct [])])
noncomputable def evs:Es->St->AH->Res (List V×AH)
 | .nil=>λ_ h=>.ok ([],h)
 | .cons a as=>λσ h=>(ev a σ h).bind λ(x,h1)=>(evs as σ h1).bind λ(xs,h2)=>.ok (x::xs,h2)
noncomputable def evc:Es->St->AH->Res (Bool×AH)
 | .nil=>λ_ h=>.ok (true,h)
 | .cons a _=>λσ h=>asB (ev a σ h)
noncomputable def evi:Itr->St->AH->Res (Src×AH)
 | .list a=>λσ h=>(ev a σ h).bind λ(x,h1)=>match x with | .ref p=>(match h1[p]? with|some (.lst _ _)=>.ok (.list p,h1)|some (.tup _)=>.ok (.tupl p,h1)|_=>.stuck)|_=>.stuck
 | .rng1 a=>λσ h=>(ev a σ h).bind λ(x,h1)=>match x with | .int j=>if -1000000<=j/\j<=1000000 then .ok (.rng 0 j.toNat,h1) else .stuck|_=>.stuck
 | .enum a=>λσ h=>(ev a σ h).bind λ(x,h1)=>match x with | .ref p=>(match qO h1 p with|some _=>.ok (.enum p,h1)|none=>.stuck)|_=>.stuck
end
inductive Out|nx(σ:St)|rt(v:V)|bk(σ:St)|ct(σ:St)
noncomputable abbrev RS:=Res (Out×AH)
noncomputable def Jr(s:Src)(g:Tg)(b:St->AH->RS):Nat->Nat->St->AH->RS
 | 0,i,σ,h=>if jF h i s then .ok (.nx σ,h) else .stuck
 |n+1,i,σ,h=>match qi h i s with
  |some (x,h1)=>match store g x σ h1 with
   |some σ1=>(b σ1 h1).bind λ(o,h2)=>match o with
    | .nx σ2=>Jr s g b n (i+1) σ2 h2
    | .ct σ2=>Jr s g b n (i+1) σ2 h2
    | .bk σ2=>.ok (.nx σ2,h2)
    | .rt v=>.ok (.rt v,h2)
   |none=>.stuck
  |none=>.stuck
noncomputable def qA5(x p:Nat)(kvs:List (Int×V))(b:St->AH->RS):List Int->St->AH->RS
 | [],σ,h=>if h[p]?=some (.ob (.fdc kvs)) then .ok (.nx σ,h.set p (.ob (.dct kvs))) else .stuck
 |k::r,σ,h=>(b (σ.set x (some (.int k))) h).nx.bind λ(o,h2)=>if h2[p]?=some (.ob (.fdc kvs)) then (match o with
   | .nx σ2=>qA5 x p kvs b r σ2 h2
   | .ct σ2=>qA5 x p kvs b r σ2 h2
   |_=>.stuck) else .stuck
mutual
noncomputable def ex:S->St->AH->RS
 | .asg g e=>λσ h=>(ev F e σ h).bind λ(x,h1)=>match store g x σ h1 with|some σ1=>.ok (.nx σ1,h1)|none=>.stuck
 | .put o i v=>λσ h=>(ev F v σ h).bind λ(x,h1)=>(ev F o σ h1).bind λ(p,h2)=>(ev F i σ h2).bind λ(k,h3)=>match p,k with
  | .ref a,.int k=>match qz h3 a with
   |some xs=>match ixN xs.length k with|some j=>.ok (.nx σ,h3.set a (.lst false (xs.set j x)))|none=>.stuck
   |none=>match zU h3 a with
    |some kvs=>if kvs.length<lim then .ok (.nx σ,h3.set a (.ob (.dct (QF kvs k x)))) else .stuck
    |none=>.stuck
  |_,_=>.stuck
 | .expr e=>λσ h=>(ev F e σ h).bind λ(_,h1)=>.ok (.nx σ,h1)
 | .ret e=>λσ h=>(ev F e σ h).bind λ(x,h1)=>.ok (.rt x,h1)
 | .ifs c t u=>λσ h=>(asB (ev F c σ h)).bind λ(x,h1)=>if x then exs t σ h1 else exs u σ h1
 | .for_ g it b=>λσ h=>(evi F it σ h).bind λ(s,h1)=>match Jc h1 s with
  |some n=>Jr s g (exs b) n 0 σ h1
  |none=>.stuck
 | .stop=>λ_ _=>.stuck
 | .orc=>λσ h=>.ok (.nx σ,h)
 | .dfor x d b=>λσ h=>(match σ[d]? with
  |some (some (.ref p))=>(match zU h p with
   |some kvs=>qA5 x p kvs (exs b) (kvs.map (·.1)) σ (h.set p (.ob (.fdc kvs)))
   |none=>.stuck)
  |_=>.stuck)
noncomputable def exs:Ss->St->AH->RS
 | .nil=>λσ h=>.ok (.nx σ,h)
 | .cons s r=>λσ h=>(ex s σ h).bind λ(o,h1)=>match o with
  | .nx σ1=>exs r σ1 h1
  |o=>.ok (o,h1)
end
end
structure Fn where
 npar:Nat
 nslot:Nat
 body:Ss
noncomputable def Fk(tb:List Fn):Nat->Nat->List V->AH->RV
 | 0,_,_,_=>.stuck
 |k+1,f,vs,h=>match tb[f]? with
  |some d=>if vs.length=d.npar/\d.npar<=d.nslot then (exs (Fk tb k) d.body (vs.map some++List.replicate (d.nslot-d.npar) none) h).bind λ(o,h1)=>match o with
    | .nx _=>.ok (.non,h1)
    | .rt v=>.ok (v,h1)
    |_=>.stuck
   else .stuck
  |none=>.stuck
open PySem PySem.Spec PyProof.Rows
open _L (Hp HO Cx PE PT PA PS PSs TE TT TA TS VK upd qC qE SqL SqT QR)
def rv(φ:List Addr):V->V->Prop
 | .ref i,.ref a=>φ[i]?=some a
 | .non,.non=>True
 | .bl b,.bl c=>b=c
 | .int i,.int j=>i=j
 | .str x,.str y=>x=y
 |_,_=>False
abbrev rvs(φ:List Addr):List V->List V->Prop:=Paired (rv φ)
def ropt(φ:List Addr):Option V->Option V->Prop
 |some v,oc=>∃w,oc=some w/\rv φ v w
 |none,_=>True
abbrev rst(φ:List Addr):St->St->Prop:=Paired (ropt φ)
def Ext(φ φ':List Addr):Prop:=∃r,φ'=φ++r
theorem Ext.refl(φ:List Addr):Ext φ φ:=⟨[],by simp⟩
theorem Ext.trans{a b c:List Addr}(h:Ext a b)(g:Ext b c):Ext a c:=by
 obtain⟨r,rfl⟩:=h;obtain⟨q,rfl⟩:=g;exact⟨r++q,by simp⟩
theorem Ext.get{φ φ':List Addr}(x:Ext φ φ'){i:Nat}{a:Addr}(h:φ[i]?=some a):φ'[i]?=some a:=by
 obtain⟨r,rfl⟩:=x;rw[wC (wB.mp h).1];exact h
theorem rv.mono{φ φ':List Addr}(x:Ext φ φ'):∀{v w:V},rv φ v w->rv φ' v w
 | .ref i,.ref a,h=>x.get h
 | .non,.non,h=>h
 | .bl _,.bl _,h=>h
 | .int _,.int _,h=>h
 | .str _,.str _,h=>h
 | .byt _,_,h=>by cases h
 | .flt _,_,h=>by cases h
 | .ty _,_,h=>by cases h
theorem rvs.mono{φ φ':List Addr}(x:Ext φ φ'){vs ws:List V}(h:rvs φ vs ws):rvs φ' vs ws:=_L.Paired.mapP h λ_ _ r=>rv.mono x r
theorem ropt.mono{φ φ':List Addr}(x:Ext φ φ'):∀{v w:Option V},ropt φ v w->ropt φ' v w
 |some v,oc,h=>by obtain⟨w,e,r⟩:=h;exact⟨w,e,rv.mono x r⟩
 |none,_,_=>trivial
theorem rst.mono{φ φ':List Addr}(x:Ext φ φ'){σ τ:St}(h:rst φ σ τ):rst φ' σ τ:=_L.Paired.mapP h λ_ _ r=>ropt.mono x r
theorem qT{α β:Type}{R:α->β->Prop}:∀{xs:List α}{ys:List β}{i:Nat}{x:α},Paired R xs ys->xs[i]?=some x->∃y,ys[i]?=some y/\R x y
 |_,_,_,_,.nil,e=>by simp at e
 |_,_,0,_,.cons r _,e=>by simp at e;subst e;exact⟨_,rfl,r⟩
 |_,_,i+1,x,.cons _ t,e=>by
  obtain⟨u,h1,h2⟩:=qT (i:=i) (x:=x) t (by simpa using e);exact⟨u,by simpa using h1,h2⟩
theorem zm{α β:Type}{R:α->β->Prop}{x:α}{u:β}(r:R x u):∀{xs:List α}{us:List β}(i:Nat),Paired R xs us->Paired R (xs.set i x) (us.set i u)
 |_,_,_,.nil=>.nil
 |_,_,0,.cons _ t=>.cons r t
 |_,_,i+1,.cons q t=>.cons q (zm r i t)
theorem qV{α β:Type}{R:α->β->Prop}:∀{xs ys:List α}{us ws:List β},Paired R xs us->Paired R ys ws->Paired R (xs++ys) (us++ws)
 |_,_,_,_,.nil,s=>s
 |_,_,_,_,.cons r t,s=>.cons r (qV t s)
theorem zw{α β:Type}{R:α->β->Prop}:∀{xs:List α}{us:List β}(n:Nat),Paired R xs us->Paired R (xs.take n) (us.take n)
 |_,_,0,_=>.nil
 |_,_,_+1,.nil=>.nil
 |_,_,n+1,.cons r t=>.cons r (zw n t)
theorem Qj{α β:Type}{R:α->β->Prop}:∀{xs:List α}{us:List β}(n:Nat),Paired R xs us->Paired R (xs.drop n) (us.drop n)
 |_,_,0,r=>r
 |_,_,_+1,.nil=>.nil
 |_,_,n+1,.cons _ t=>Qj n t
theorem ZP{α β:Type}{R:α->β->Prop}{xs:List α}{us:List β}(h:Paired R xs us):∀k:Nat,Paired R (List.replicate k xs).flatten (List.replicate k us).flatten
 | 0=>.nil
 |k+1=>by
  rw[List.replicate_succ,List.replicate_succ,List.flatten_cons,List.flatten_cons];exact qV h (ZP h k)
noncomputable def kk(p:Int×V):_L.Key×V:=(.inl p.1,p.2)
def RK(φ:List Addr)(kvs ks:List (Int×V)):Prop:=Paired (λp q=>q.1=p.1/\rv φ p.2 q.2) kvs ks
theorem RK.mono{φ φ':List Addr}{kvs ks:List (Int×V)}(x:Ext φ φ')(r:RK φ kvs ks):RK φ' kvs ks:=_L.Paired.mapP r λ_ _ z=>⟨z.1,rv.mono x z.2⟩
theorem RK.has{φ:List Addr}(i:Int):∀{kvs ks:List (Int×V)},RK φ kvs ks->Qz ks i=Qz kvs i
 |_,_,.nil=>rfl
 |_,_,.cons a r=>by
  show (decide (_=i)||Qz _ i)=(decide (_=i)||Qz _ i);rw[a.1,RK.has i r]
theorem RK.get{φ:List Addr}{i:Int}{w:V}:∀{kvs ks:List (Int×V)},RK φ kvs ks->QI kvs i=some w->∃w',QI ks i=some w'/\rv φ w w'
 |_,_,.nil,e=>by cases e
 |p::kvs,q::ks,.cons a r,e=>by
  unfold QI at e ⊢;rw[List.find?_cons]at e ⊢;rw[a.1];by_cases h:p.1=i
  ·rw[uI h]at e ⊢;cases e;exact⟨q.2,rfl,a.2⟩
  ·rw[uH h]at e ⊢;exact RK.get r e
theorem RK.map{φ:List Addr}{k:Int}{v w:V}(h:rv φ v w):∀{kvs ks:List (Int×V)},RK φ kvs ks->RK φ (kvs.map λp=>if p.1=k then (p.1,v) else p) (ks.map λp=>if p.1=k then (p.1,w) else p)
 |_,_,.nil=>.nil
 |p::kvs,q::ks,.cons a r=>by
  refine .cons ?_ (RK.map h r);dsimp only;by_cases z:p.1=k
  ·rw[if_pos z,if_pos (a.1.trans z)];exact⟨a.1,h⟩
  ·rw[if_neg z,if_neg (λy=>z (a.1.symm.trans y))];exact a
theorem RK.put{φ:List Addr}{kvs ks:List (Int×V)}{k:Int}{v w:V}(r:RK φ kvs ks)(h:rv φ v w):RK φ (QF kvs k v) (QF ks k w):=by
 unfold QF;rw[RK.has k r];split
 ·exact RK.map h r
 ·exact qV r (.cons ⟨rfl,h⟩ .nil)
theorem RK.merge{φ:List Addr}:∀{more mk kvs ks:List (Int×V)},RK φ more mk->RK φ kvs ks->RK φ (zA kvs more) (zA ks mk)
 |_,_,_,_,.nil,r=>r
 |p::more,q::mk,kvs,ks,.cons a m,r=>by
  show RK φ (zA (QF kvs p.1 p.2) more) (zA (QF ks q.1 q.2) mk);rw[a.1];exact RK.merge m (r.put a.2)
theorem RK.len{φ:List Addr}{kvs ks:List (Int×V)}(r:RK φ kvs ks):ks.length=kvs.length:=(Paired.length r).symm
theorem RK.zip{φ:List Addr}:∀(is:List Int){xs ys:List V},rvs φ xs ys->RK φ (is.zip xs) (is.zip ys)
 | [],_,_,_=>.nil
 |_::_,_,_,.nil=>.nil
 |_::is,_,_,.cons a r=>.cons ⟨rfl,a⟩ (RK.zip is r)
noncomputable def O.mu:O->Bool
 | .lst false _=>true | .ob (.dct _)=>true | .ob (.fdc _)=>true|_=>false
def exP(a C:Addr):Heap->Prop:=λh=>∃o,h.get? a=some o/\o.cls=.ref C
def ro(K:PySem.W.Frag)(φ:List Addr)(H:Hp)(a:Addr):O->Prop
 | .lst false xs=>∃ys,H a=some (.lst ys)/\rvs φ xs ys
 | .lst true xs=>∃ys,((∃o,H a=some (.frz o (.lst ys)))\/SqL K (λ_=>none) a ys)/\rvs φ xs ys
 | .tup xs=>∃ys,SqT K H a ys/\rvs φ xs ys
 | .ob (.dct kvs)=>∃ks,H a=some (.dK (ks.map kk))/\RK φ kvs ks
 | .ob (.fdc kvs)=>∃ks o,H a=some (.frz o (.dK (ks.map kk)))/\RK φ kvs ks
 | .ob (.exn x)=>∃C,PySem.W.nsIn K mainGlobals x=some (some (.ref C))/\H a=some (.ext (exP a C))
structure Rl(K:PySem.W.Frag)(G:List Addr)(φ:List Addr)(h:AH)(H:Hp):Prop where
 len:φ.length=h.length
 glob:Ext G φ
 obj:∀(i:Nat) o a,h[i]?=some o->φ[i]?=some a->ro K φ H a o
 inj:∀(i j:Nat) x y a,x.mu=true->y.mu=true->h[i]?=some x->h[j]?=some y->φ[i]?=some a->φ[j]?=some a->i=j
section
variable{K:PySem.W.Frag}{G φ φ':List Addr}{h:AH}{H H':Hp}{a b p:Addr}
theorem z0{xs:List V}(s:QR H H')(q:SqT K H a xs):SqT K H' a xs:=by
 rcases q with(h|⟨o,h⟩)|h
 ·exact .inl (.inl (s _ _ h))
 ·exact .inl (.inr ⟨o,s _ _ h⟩)
 ·exact .inr h
theorem n9{xs:List V}(q:SqL K (λ_=>none) a xs):SqL K H a xs:=by
 rcases q with(h|⟨o,h⟩)|h
 ·cases h
 ·cases h
 ·exact .inr h
theorem D6{o:HO}(hp:H p=none):QR H (upd H p o):=λb u e=>by rw[qE (_L.ne_of_none e hp)];exact e
theorem ro.keep{o:O}(x:Ext φ φ')(s:QR H H')(r:ro K φ H a o):ro K φ' H' a o:=by
 match o,r with
 | .lst false xs,⟨ys,e,r⟩=>exact⟨ys,s _ _ e,rvs.mono x r⟩
 | .lst true xs,⟨ys,.inl ⟨o,e⟩,r⟩=>exact⟨ys,.inl ⟨o,s _ _ e⟩,rvs.mono x r⟩
 | .lst true xs,⟨ys,.inr e,r⟩=>exact⟨ys,.inr e,rvs.mono x r⟩
 | .tup xs,⟨ys,e,r⟩=>exact⟨ys,z0 s e,rvs.mono x r⟩
 | .ob (.dct _),⟨ks,e,r⟩=>exact⟨ks,s _ _ e,RK.mono x r⟩
 | .ob (.fdc _),⟨ks,o,e,r⟩=>exact⟨ks,o,s _ _ e,RK.mono x r⟩
 | .ob (.exn _),⟨C,e1,e2⟩=>exact⟨C,e1,s _ _ e2⟩
def Wr(w:HO):Prop:=(∃zs,w=.lst zs)\/(∃ks,w=.dK ks)\/∃o ks,w=.frz o (.dK ks)
theorem ro.wr{o:O}(m:o.mu=true)(r:ro K φ H a o):∃w,H a=some w/\Wr w:=by
 match o,m,r with
 | .lst false xs,_,⟨ys,e,r⟩=>exact⟨_,e,.inl ⟨_,rfl⟩⟩
 | .ob (.dct _),_,⟨_,e,_⟩=>exact⟨_,e,.inr (.inl ⟨_,rfl⟩)⟩
 | .ob (.fdc _),_,⟨_,_,e,_⟩=>exact⟨_,e,.inr (.inr ⟨_,_,rfl⟩)⟩
theorem Wr.ne{w v:HO}(h:Wr w)(e:H a=some v)(hb:H b=some w)(h1:∀zs,v≠.lst zs)(h2:∀ks,v≠.dK ks)(h3:∀o ks,v≠.frz o (.dK ks)):a≠b:=λz=>by
 subst z;rw[e]at hb;cases hb;rcases h with⟨zs,rfl⟩|⟨ks,rfl⟩|⟨o,ks,rfl⟩
 ·exact h1 _ rfl
 ·exact h2 _ rfl
 ·exact h3 _ _ rfl
theorem ro.other{o:O}{w w':HO}(hw:Wr w)(hb:H b=some w)(hne:o.mu=true->a≠b)(r:ro K φ H a o):ro K φ (upd H b w') a o:=by
 match o,r with
 | .lst false xs,⟨ys,e,r⟩=>exact⟨ys,by rw[qE (hne rfl)];exact e,r⟩
 | .lst true xs,⟨ys,.inl ⟨o,e⟩,r⟩=>exact⟨ys,.inl ⟨o,by rw[qE (hw.ne e hb (λ_ z=>by cases z) (λ_ z=>by cases z) (λ_ _ z=>by cases z))];exact e⟩,r⟩
 | .lst true xs,⟨ys,.inr e,r⟩=>exact⟨ys,.inr e,r⟩
 | .tup xs,⟨ys,e,r⟩=>
  refine⟨ys,?_,r⟩;rcases e with(h|⟨o,h⟩)|h
  ·exact .inl (.inl (by rw[qE (hw.ne h hb (λ_ z=>by cases z) (λ_ z=>by cases z) (λ_ _ z=>by cases z))];exact h))
  ·exact .inl (.inr ⟨o,by rw[qE (hw.ne h hb (λ_ z=>by cases z) (λ_ z=>by cases z) (λ_ _ z=>by cases z))];exact h⟩)
  ·exact .inr h
 | .ob (.dct _),⟨ks,e,r⟩=>exact⟨ks,by rw[qE (hne rfl)];exact e,r⟩
 | .ob (.fdc _),⟨ks,o,e,r⟩=>exact⟨ks,o,by rw[qE (hne rfl)];exact e,r⟩
 | .ob (.exn _),⟨C,e1,e2⟩=>exact⟨C,e1,by rw[qE (hw.ne e2 hb (λ_ z=>by cases z) (λ_ z=>by cases z) (λ_ _ z=>by cases z))];exact e2⟩
theorem Rl.at(R:Rl K G φ h H){i:Nat}{o:O}(e:h[i]?=some o):∃a,φ[i]?=some a/\ro K φ H a o:=by
 have hi:i<φ.length:=by rw[R.len];exact(wB.mp e).1
 exact⟨φ[i],wD hi,R.obj i o _ e (wD hi)⟩
theorem Rl.new(R:Rl K G φ h H)(hp:H p=none){o:O}{ob:HO}(n:ro K (φ++[p]) (upd H p ob) p o):Rl K G (φ++[p]) (h++[o]) (upd H p ob):=by
 have x:Ext φ (φ++[p]):=⟨[p],rfl⟩
 refine⟨by simp[R.len],R.glob.trans x,λi u a e1 e2=>?_,λi j xs ys a m1 m2 e1 e2 e3 e4=>?_⟩
 ·by_cases hi:i<h.length
  ·rw[wC hi]at e1;rw[wC (by rw[R.len];exact hi)]at e2;exact(R.obj i u a e1 e2).keep x (D6 hp)
  ·have hi':i=h.length:=by
    have:=(wB.mp e1).1;simp at this;omega
   subst hi';simp at e1;rw[<-R.len]at e2;simp at e2;subst e1 e2;exact n
 ·have lt:∀{k:Nat}{z:O},(h++[o])[k]?=some z->(h[k]?=some z/\k<h.length)\/k=h.length:=λ{k zs} e=>by
   by_cases hk:k<h.length
   ·rw[wC hk]at e;exact .inl ⟨e,hk⟩
   ·have:=(wB.mp e).1;simp at this;exact .inr (by omega)
  have old:∀{k:Nat}{b:Addr},k<h.length->(φ++[p])[k]?=some b->φ[k]?=some b:=λ{k b} hk e=>by
   rwa [wC (by rw[R.len];exact hk)]at e
  have newA:∀{b:Addr},(φ++[p])[h.length]?=some b->b=p:=λ{b} e=>by
   rw[<-R.len]at e;simp at e;exact e.symm
  rcases lt e1 with⟨e1,h1⟩|rfl<;>rcases lt e2 with⟨e2,h2⟩|rfl
  ·exact R.inj i j xs ys a m1 m2 e1 e2 (old h1 e3) (old h2 e4)
  ·have ea:=newA e4;subst ea;obtain⟨w,hz,_⟩:=(R.obj i _ a e1 (old h1 e3)).wr m1;rw[hp]at hz;cases hz
  ·have ea:=newA e3;subst ea;obtain⟨w,hz,_⟩:=(R.obj j _ a e2 (old h2 e4)).wr m2;rw[hp]at hz;cases hz
  ·rfl
theorem Rl.more(R:Rl K G φ h H)(hp:H p=none){ob:HO}:Rl K G φ h (upd H p ob):=
 ⟨R.len,R.glob,λi u a e1 e2=>(R.obj i u a e1 e2).keep (Ext.refl _) (D6 hp),R.inj⟩
theorem Rl.exn(R:Rl K G φ h H){i:Nat}{x:Str}(e:qEH h i=some x):∃a C,φ[i]?=some a/\PySem.W.nsIn K mainGlobals x=some (some (.ref C))/\H a=some (.ext (exP a C)):=by
 unfold qEH at e;split at e
 ·rename_i c q;cases e;obtain⟨a,ea,C,r1,r2⟩:=R.at q;exact⟨a,C,ea,r1,r2⟩
 ·cases e
theorem Rl.newL(R:Rl K G φ h H)(hp:H p=none){xs ys:List V}(r:rvs φ xs ys):Rl K G (φ++[p]) (h++[.lst false xs]) (upd H p (.lst ys)):=
 R.new hp ⟨ys,qC,rvs.mono ⟨[p],rfl⟩ r⟩
theorem Rl.newT(R:Rl K G φ h H)(hp:H p=none){xs ys:List V}(r:rvs φ xs ys):Rl K G (φ++[p]) (h++[.tup xs]) (upd H p (.tup ys)):=
 R.new hp ⟨ys,.inl (.inl qC),rvs.mono ⟨[p],rfl⟩ r⟩
theorem Rl.lastRef(R:Rl K G φ h H):(φ++[p])[h.length]?=some p:=by rw[<-R.len];simp
theorem Rl.write(R:Rl K G φ h H){i:Nat}{x y:O}{w':HO}(mx:x.mu=true)(my:y.mu=true)(e:h[i]?=some x)(ea:φ[i]?=some a)(n:ro K φ (upd H a w') a y):Rl K G φ (h.set i y) (upd H a w'):=by
 have hi:=(wB.mp e).1;obtain⟨w,hw,ww⟩:=(R.obj i _ a e ea).wr mx;have lk:∀{k:Nat}{z:O},z.mu=true->(h.set i y)[k]?=some z->∃z',z'.mu=true/\h[k]?=some z':=λ{k zs} m q=>by
  by_cases hk:k=i
  ·subst hk;exact⟨x,mx,e⟩
  ·rw[wX (Ne.symm hk)]at q;exact⟨zs,m,q⟩
 refine⟨by simp[R.len],R.glob,λk u b e1 e2=>?_,λk l us vs b m1 m2 e1 e2 e3 e4=>?_⟩
 ·by_cases hk:k=i
  ·subst hk;rw[wb hi]at e1;rw[ea]at e2;cases e1;cases e2;exact n
  ·rw[wX (Ne.symm hk)]at e1;refine(R.obj k u b e1 e2).other ww hw λmu hb=>?_;subst hb;exact hk (R.inj k i u x b mu mx e1 e e2 ea)
 ·obtain⟨z1,n1,q1⟩:=lk m1 e1;obtain⟨z2,n2,q2⟩:=lk m2 e2;exact R.inj k l z1 z2 b n1 n2 q1 q2 e3 e4
theorem Rl.set(R:Rl K G φ h H){i:Nat}{xs ys zs:List V}(e:h[i]?=some (.lst false xs))(ea:φ[i]?=some a)(r:rvs φ ys zs):Rl K G φ (h.set i (.lst false ys)) (upd H a (.lst zs)):=
 R.write rfl rfl e ea ⟨zs,qC,r⟩
theorem Rl.dct(R:Rl K G φ h H){i:Nat}{kvs:List (Int×V)}(e:zU h i=some kvs):∃a ks,φ[i]?=some a/\h[i]?=some (.ob (.dct kvs))/\H a=some (.dK (ks.map kk))/\RK φ kvs ks:=by
 unfold zU at e;split at e
 ·rename_i zs q;cases e;obtain⟨a,ea,ks,r,rk⟩:=R.at q;exact⟨a,ks,ea,q,r,rk⟩
 ·cases e
theorem Rl.rd(R:Rl K G φ h H){i:Nat}{kvs:List (Int×V)}(e:J4 h i=some kvs):∃a ks,φ[i]?=some a/\(H a=some (.dK (ks.map kk))\/∃o,H a=some (.frz o (.dK (ks.map kk))))/\RK φ kvs ks:=by
 unfold J4 at e;split at e
 ·rename_i zs q;cases e;obtain⟨a,ea,ks,r,rk⟩:=R.at q;exact⟨a,ks,ea,.inl r,rk⟩
 ·rename_i zs q;cases e;obtain⟨a,ea,ks,o,r,rk⟩:=R.at q;exact⟨a,ks,ea,.inr ⟨o,r⟩,rk⟩
 ·cases e
theorem Rl.lst(R:Rl K G φ h H){i:Nat}{xs:List V}(e:qO h i=some xs):∃a ys,φ[i]?=some a/\SqL K H a ys/\rvs φ xs ys:=by
 unfold qO at e;split at e
 ·rename_i fz zs q;cases e;obtain⟨a,ea,r⟩:=R.at q;cases fz with
  |false=>obtain⟨ys,e,r⟩:=r;exact⟨a,ys,ea,.inl (.inl e),r⟩
  |true=>
   obtain⟨ys,e,r⟩:=r;rcases e with⟨o,e⟩|e
   ·exact⟨a,ys,ea,.inl (.inr ⟨o,e⟩),r⟩
   ·exact⟨a,ys,ea,n9 e,r⟩
 ·cases e
theorem Rl.tup(R:Rl K G φ h H){i:Nat}{xs:List V}(e:qX h i=some xs):∃a ys,φ[i]?=some a/\SqT K H a ys/\rvs φ xs ys:=by
 unfold qX at e;split at e
 ·rename_i zs q;cases e;obtain⟨a,ea,ys,e,r⟩:=R.at q;exact⟨a,ys,ea,e,r⟩
 ·cases e
theorem Rl.mut(R:Rl K G φ h H){i:Nat}{xs:List V}(e:qz h i=some xs):h[i]?=some (.lst false xs)/\∃a ys,φ[i]?=some a/\H a=some (.lst ys)/\rvs φ xs ys:=by
 unfold qz at e;split at e
 ·rename_i zs q;cases e;obtain⟨a,ea,ys,e,r⟩:=R.at q;exact⟨q,a,ys,ea,e,r⟩
 ·cases e
theorem Rl.its(R:Rl K G φ h H){i:Nat}{xs:List V}(e:items h i=some xs):∃a ys,φ[i]?=some a/\(SqL K H a ys\/SqT K H a ys)/\rvs φ xs ys:=by
 unfold items at e;split at e
 ·rename_i fz zs q;cases e;obtain⟨a,ys,h1,h2,h3⟩:=R.lst (i:=i) (xs:=xs) (by unfold qO;rw[q]);exact⟨a,ys,h1,.inl h2,h3⟩
 ·rename_i zs q;cases e;obtain⟨a,ys,h1,h2,h3⟩:=R.tup (i:=i) (xs:=xs) (by unfold qX;rw[q]);exact⟨a,ys,h1,.inr h2,h3⟩
 ·cases e
end
open _L (PG Inv RelV Vals EP TP AP SP OpR zG R2)
theorem tK{α β:Type}{r:Res α}{f:α->Res β}{x:β}(h:r.bind f=.ok x):∃a,r=.ok a/\f a=.ok x:=by
 cases r with
 |ok a=>exact⟨a,rfl,h⟩
 |exc c h'=>cases h
 |stuck=>cases h
theorem qD{φ:List Addr}{i:Int}{w:V}(h:rv φ (.int i) w):w=.int i:=by
 cases w with
 |int j=>exact congrArg V.int (show i=j from h).symm
 |_=>exact False.elim h
theorem zS{φ:List Addr}{i:Bool}{w:V}(h:rv φ (.bl i) w):w=.bl i:=by
 cases w with
 |bl j=>exact congrArg V.bl (show i=j from h).symm
 |_=>exact False.elim h
theorem zd{φ:List Addr}{i:Str}{w:V}(h:rv φ (.str i) w):w=.str i:=by
 cases w with
 |str j=>exact congrArg V.str (show i=j from h).symm
 |_=>exact False.elim h
theorem zM{φ:List Addr}{w:V}(h:rv φ .non w):w=.non:=by
 cases w with
 |non=>rfl
 |_=>exact False.elim h
theorem qL{φ:List Addr}{i:Nat}{w:V}(h:rv φ (.ref i) w):∃a,w=.ref a/\φ[i]?=some a:=by
 cases w with
 |ref j=>exact⟨j,rfl,h⟩
 |_=>exact False.elim h
section
variable (K:PySem.W.Frag)(G:List Addr)(F:Nat->List V->AH->RV)
noncomputable def tE(e:E):TE:=λσc H Q=>∃φ h σ v h',Rl K G φ h H/\rst φ σ σc/\ev F e σ h=.ok (v,h')/\∀φ' H' w,Ext φ φ'->Rl K G φ' h' H'->rv φ' v w->Q w H'
noncomputable def tB(r:St->AH->Res (Bool×AH)):TT:=λσc H Q=>∃φ h σ b h',Rl K G φ h H/\rst φ σ σc/\r σ h=.ok (b,h')/\∀φ' H',Ext φ φ'->Rl K G φ' h' H'->Q b H'
noncomputable abbrev tT(e:E):TT:=tB K G (λσ h=>asB (ev F e σ h))
noncomputable def tL(as:Es):TA:=λσc H Q=>∃φ h σ vs h',Rl K G φ h H/\rst φ σ σc/\evs F as σ h=.ok (vs,h')/\∀φ' H' ws,Ext φ φ'->Rl K G φ' h' H'->rvs φ' vs ws->Q ws H'
end
section
variable{X:Cx}{G:List Addr}{F:Nat->List V->AH->RV}
theorem qp{e:Expr}{t t':TE}(h:PE X e t)(w:∀σ H Q,t' σ H Q->t σ H Q):PE X e t':=λpins s σ H Q I q=>h pins s σ H Q I (w σ H Q q)
theorem v6{e:Expr}{t t':TT}(h:PT X e t)(w:∀σ H Q,t' σ H Q->t σ H Q):PT X e t':=λpins s σ H Q I q=>h pins s σ H Q I (w σ H Q q)
theorem qDo{e:List Expr}{t t':TA}(h:PA X e t)(w:∀σ H Q,t' σ H Q->t σ H Q):PA X e t':=λpos pins s σ H Q I q=>h pos pins s σ H Q I (w σ H Q q)
variable (X G F) in
abbrev SE(e:Expr)(a:E):Prop:=PE X e (tE X.K G F a)
variable (X G F) in
abbrev ST(e:Expr)(a:E):Prop:=PT X e (tT X.K G F a)
variable (X G F) in
abbrev SA(es:List Expr)(as:Es):Prop:=PA X es (tL X.K G F as)
variable{K:PySem.W.Frag}{φ φ':List Addr}{h h1 h2:AH}{H:Hp}{σ σc:St}{a b:E}{x y:V}
theorem jq(R:Rl K G φ h H)(rs:rst φ σ σc)(ea:ev F a σ h=.ok (x,h1))(eb:ev F b σ h1=.ok (y,h2)){Rr:V->V->Hp->Prop}
  (k:∀φ2 H2 xc yc,Ext φ φ2->Rl K G φ2 h2 H2->rv φ2 x xc->rv φ2 y yc->Rr xc yc H2):tE K G F a σc H (λxc H1=>tE K G F b σc H1 (λyc H2=>Rr xc yc H2)):=
 ⟨φ,h,σ,x,h1,R,rs,ea,λφ1 H1 xc e1 R1 r1=>⟨φ1,h1,σ,y,h2,R1,rst.mono e1 rs,eb,λφ2 H2 yc e2 R2 r2=>k φ2 H2 xc yc (e1.trans e2) R2 (rv.mono e2 r1) r2⟩⟩
theorem qEJ{i:Nat}{n:Str}{pos:Pos}(hN:X.N[i]?=some n)(hv:_L.Vis X.env.scope n)(hd:(n==("__debug__":Str))=false)(hcd:(n==("__classdict__":Str))=false):SE X G F (.Name n pos) (.var i):=by
 refine qp (_L.pe_var hN hv hd hcd) λσc H Q q=>?_;obtain⟨φ,h,σ,v,h',R,rs,e,k⟩:=q;unfold ev at e;split at e
 ·rename_i w q;cases e;obtain⟨oc,ec,r⟩:=qT rs q;obtain⟨u,rfl,r⟩:=r;exact⟨u,ec,k φ H u (.refl _) R r⟩
 ·cases e
theorem U1{v:V}{w:V}{σc:St}{H:Hp}{Q:VK}(hr:∀φ,rv φ v w)(q:tE K G F (.cst v) σc H Q):_L.tC w σc H Q:=by
 obtain⟨φ,h,σ,v',h',R,rs,e,k⟩:=q;unfold ev at e;cases e;exact k φ H w (.refl _) R (hr φ)
theorem qAZ {i j pos}:SE X G F (.Constant (.int i) j pos) (.cst (.int i)):=qp _L.pe_int λ_ _ _=>U1 λ_=>rfl
theorem qCu {i j pos}:SE X G F (.Constant (.bool i) j pos) (.cst (.bl i)):=qp _L.pe_bl λ_ _ _=>U1 λ_=>rfl
theorem qAU {j pos}:SE X G F (.Constant .none j pos) (.cst .non):=qp _L.pe_non λ_ _ _=>U1 λ_=>trivial
theorem qBB {i j pos}:SE X G F (.Constant (.str i) j pos) (.cst (.str i)):=qp _L.pe_str λ_ _ _=>U1 λ_=>rfl
theorem qBe{n:Str}{v:V}{u:Value}{pos:Pos}(hg:_L.Gl X n)(hm:X.mg n=some u)(r:RelV v u)(hv:∀φ,rv φ v v)(hd:(n==("__debug__":Str))=false):SE X G F (.Name n pos) (.cst v):=
 qp (_L.pe_glob hg hm r hd) λ_ _ _=>U1 hv
theorem qBd{n:Str}{g:Nat}{a:Addr}{pos:Pos}(hg:_L.Gl X n)(hm:X.mg n=some (.ref a))(hG:G[g]?=some a)(hd:(n==("__debug__":Str))=false):SE X G F (.Name n pos) (.glob g):=by
 refine qp (_L.pe_glob (v:=.ref a) hg hm rfl hd) λσc H Q q=>?_;obtain⟨φ,h,σ,v',h',R,rs,e,k⟩:=q;unfold ev at e;cases e;exact k φ H (.ref a) (.refl _) R (R.glob.get hG)
noncomputable def opB:BOp->Operator
 | .add=>.Add | .sub=>.Sub | .mul=>.Mult | .fdiv=>.FloorDiv | .mod=>.Mod | .pow=>.Pow | .band=>.BitAnd | .shl=>.LShift | .shr=>.RShift | .bxor=>.BitXor
def qF3(i j:Int):Prop:=j≠0/\j.natAbs.log2<9000
theorem m7:OpR X (binaryOp .FloorDiv) (_L.rI qF3 λi j=>.int (i.fdiv j)):=_L.opI λ_ _ _ _ _ _ _ hc q=>floordiv_int hc.1 q (.inl (PyProof.noPylong_of_log2 hc.2))
def qGr(i j:Int):Prop:=i.natAbs.log2<9000/\j.natAbs.log2<9000
theorem F8{i:Int}(h:i.natAbs.log2<9000):Builtin.Int.intBits i<=2 ^ 20:=by
 unfold Builtin.Int.intBits;have e:(2:Nat) ^ 20=1048576:=by decide
 rw[e];split<;>omega
theorem qCG:OpR X (binaryOp .Mult) (_L.rI qGr λi j=>.int (i*j)):=_L.opI λ_ _ _ _ _ _ _ hc q=>mul_int q (IntMulOk.of_bits (F8 hc.1) (F8 hc.2))
theorem K3{i:Int}(h:mid i=true):i.natAbs.log2<9000:=uK h
noncomputable def qGA(K:PySem.W.Frag):BOp->R2
 | .add=>λx y H Q=>(_L.rI0 (λi j=>.int (i+j)) x y H Q\/_L.rCat x y H Q)\/_L.rCatT K x y H Q
 | .sub=>_L.rI0 λi j=>.int (i-j)
 | .mul=>λx y H Q=>(_L.rI _L.CMul (λi j=>.int (i*j)) x y H Q\/_L.rRep x y H Q)\/_L.rI qGr (λi j=>.int (i*j)) x y H Q
 | .fdiv=>λx y H Q=>_L.rI _L.CDiv (λi j=>.int (i / j)) x y H Q\/_L.rI qF3 (λi j=>.int (i.fdiv j)) x y H Q
 | .mod=>λx y H Q=>_L.rI (λ_ j=>0<j) (λi j=>.int (i % j)) x y H Q\/_L.rI (λ_ j=>j≠0) (λi j=>.int (i.fmod j)) x y H Q
 | .pow=>_L.rI _L.CPow λi j=>.int (i ^ j.toNat)
 | .band=>_L.rI0 λi j=>.int (Builtin.bitAnd i j)
 | .shl=>_L.rI _L.CPow λi j=>.int (i*2 ^ j.toNat)
 | .shr=>_L.rI (λ_ j=>0<=j) λi j=>.int (i / 2 ^ j.toNat)
 | .bxor=>_L.rI0 λi j=>.int (Builtin.bitXor i j)
theorem qBR:∀op,OpR X (binaryOp (opB op)) (qGA X.K op)
 | .add=>(_L.op_add.or _L.op_cat).or _L.op_catT
 | .sub=>_L.op_sub
 | .mul=>(_L.op_mul.or _L.op_rep).or qCG
 | .fdiv=>_L.op_fdiv.or m7
 | .mod=>_L.op_mod.or _L.op_modN
 | .pow=>_L.op_pow
 | .band=>_L.op_and
 | .shl=>_L.op_shl
 | .shr=>_L.op_shr
 | .bxor=>_L.op_xor
theorem ZN:lim<=sizeLine:=by decide
theorem qAQ:lim<sizeLine:=by decide
theorem J8{i:Int}(h:QG i=true):-(2 ^ 64)<i/\i<2 ^ 64:=by
 unfold QG two64 at h;have:=uK h;omega
theorem qCZ{op:BOp}{v xc yc:V}{h':AH}{Q:VK}(e:qEM op x y h=.ok (v,h'))(R:Rl K G φ h H)(rx:rv φ x xc)(ry:rv φ y yc)
  (k:∀φ' H' w,Ext φ φ'->Rl K G φ' h' H'->rv φ' v w->Q w H'):qGA K op xc yc H Q:=by
 cases op with
 |add=>
  dsimp only[qEM]at e;split at e
  ·replace e:=qq e;obtain⟨b,rfl,e⟩:=e;split at e
   ·rename_i xs ys e1 e2;split at e
    ·rename_i hl;cases e;obtain⟨q1,a1,ys1,ha1,hH1,r1⟩:=R.mut e1;obtain⟨q2,a2,ys2,ha2,hH2,r2⟩:=R.mut e2;obtain⟨b1,rfl,hb1⟩:=qL rx;obtain⟨b2,rfl,hb2⟩:=qL ry;rw[ha1]at hb1;cases hb1;rw[ha2]at hb2;cases hb2;refine .inl (.inr ⟨a1,a2,ys1,ys2,rfl,rfl,hH1,hH2,?_,λp hp=>k (φ++[p]) _ _ ⟨[p],rfl⟩ (R.newL hp (qV r1 r2)) R.lastRef⟩);have l1:=Paired.length r1;have l2:=Paired.length r2;have:=ZN;omega
    ·cases e
   ·split at e
    ·rename_i xs ys e1 e2;split at e
     ·rename_i hl;obtain⟨a1,ys1,ha1,hH1,r1⟩:=R.tup e1;obtain⟨a2,ys2,ha2,hH2,r2⟩:=R.tup e2;obtain⟨b1,rfl,hb1⟩:=qL rx;obtain⟨b2,rfl,hb2⟩:=qL ry;rw[ha1]at hb1;cases hb1;rw[ha2]at hb2;cases hb2;have l1:=Paired.length r1;have l2:=Paired.length r2;refine .inr ⟨a1,a2,ys1,ys2,rfl,rfl,hH1,hH2,?_,?_,λz=>?_,λz p hp=>?_⟩
      ·rintro rfl;exact hl.1 (wq.mp l1)
      ·have:=ZN;omega
      ·subst z;rw[if_pos (wq.mp l2)]at e;cases e;exact k φ H _ (.refl _) R ha1
      ·rw[if_neg (λq=>z (by subst q;exact wq.mp l2.symm))]at e;cases e;exact k (φ++[p]) _ _ ⟨[p],rfl⟩ (R.newT hp (qV r1 r2)) R.lastRef
     ·cases e
    ·cases e
  ·replace e:=qr e;obtain⟨i,j,rfl,rfl,e⟩:=e;cases e;cases qD rx;cases qD ry;exact .inl (.inl ⟨_,_,rfl,rfl,k φ H _ (.refl _) R rfl⟩)
 |sub=>
  replace e:=qr e;obtain⟨i,j,rfl,rfl,e⟩:=e;cases e;cases qD rx;cases qD ry;exact⟨_,_,rfl,rfl,k φ H _ (.refl _) R rfl⟩
 |mul=>
  dsimp only[qEM]at e;split at e
  ·split at e
   ·split at e
    ·rename_i xs e1;split at e
     ·rename_i hl;obtain⟨h0,hl,h3⟩:=hl;cases e;obtain⟨q1,a1,ys1,ha1,hH1,r1⟩:=R.mut e1;obtain⟨b1,rfl,hb1⟩:=qL rx;rw[ha1]at hb1;cases hb1;cases qD ry;refine .inl (.inr ⟨a1,_,ys1,rfl,rfl,hH1,by omega,by omega,?_,λp hp=>k (φ++[p]) _ _ ⟨[p],rfl⟩ (R.newL hp (ZP r1 _)) R.lastRef⟩);have l1:=Paired.length r1;have:=ZN;rw[<-l1];omega
     ·cases e
    ·cases e
   ·cases e
  ·replace e:=qr e;obtain⟨i,j,rfl,rfl,e⟩:=e;split at e
   ·rename_i hs;cases e;cases qD rx;cases qD ry;rw[vf,vf,wE]at hs;rcases hs with(z|z)|z
    ·exact .inl (.inl ⟨_,_,rfl,rfl,.inl (J8 z),k φ H _ (.refl _) R rfl⟩)
    ·exact .inl (.inl ⟨_,_,rfl,rfl,.inr (J8 z),k φ H _ (.refl _) R rfl⟩)
    ·exact .inr ⟨_,_,rfl,rfl,⟨K3 z.1,K3 z.2⟩,k φ H _ (.refl _) R rfl⟩
   ·cases e
 |fdiv=>
  replace e:=qr e;obtain⟨i,j,rfl,rfl,e⟩:=e;split at e
  ·rename_i hc;cases e;cases qD rx;cases qD ry;rcases hc.2 with z|z
   ·exact .inl ⟨_,_,rfl,rfl,⟨hc.1,z⟩,k φ H _ (.refl _) R rfl⟩
   ·refine .inr ⟨_,_,rfl,rfl,⟨by omega,K3 z⟩,?_⟩;dsimp only;rw[vT _ (by omega)];exact k φ H _ (.refl _) R rfl
  ·split at e
   ·rename_i hc;cases e;cases qD rx;cases qD ry;exact .inr ⟨_,_,rfl,rfl,⟨by omega,K3 hc.2⟩,k φ H _ (.refl _) R rfl⟩
   ·cases e
 |mod=>
  replace e:=qr e;obtain⟨i,j,rfl,rfl,e⟩:=e;split at e
  ·rename_i hc;cases e;cases qD rx;cases qD ry;exact .inl ⟨_,_,rfl,rfl,hc,k φ H _ (.refl _) R rfl⟩
  ·split at e
   ·rename_i hc;cases e;cases qD rx;cases qD ry;exact .inr ⟨_,_,rfl,rfl,(by omega),k φ H _ (.refl _) R rfl⟩
   ·cases e
 |pow=>
  replace e:=qr e;obtain⟨i,j,rfl,rfl,e⟩:=e;split at e
  ·rename_i hc;cases e;cases qD rx;cases qD ry;refine⟨_,_,rfl,rfl,⟨hc.1,by omega,by omega⟩,k φ H _ (.refl _) R rfl⟩
  ·cases e
 |band=>
  replace e:=qr e;obtain⟨i,j,rfl,rfl,e⟩:=e;cases e;cases qD rx;cases qD ry;exact⟨_,_,rfl,rfl,k φ H _ (.refl _) R rfl⟩
 |shl=>
  replace e:=qr e;obtain⟨i,j,rfl,rfl,e⟩:=e;split at e
  ·rename_i hc;cases e;cases qD rx;cases qD ry;refine⟨_,_,rfl,rfl,⟨hc.1,by omega,by omega⟩,k φ H _ (.refl _) R rfl⟩
  ·cases e
 |shr=>
  replace e:=qr e;obtain⟨i,j,rfl,rfl,e⟩:=e;split at e
  ·rename_i hc;cases e;cases qD rx;cases qD ry;refine⟨_,_,rfl,rfl,hc.1,k φ H _ (.refl _) R rfl⟩
  ·cases e
 |bxor=>
  replace e:=qr e;obtain⟨i,j,rfl,rfl,e⟩:=e;cases e;cases qD rx;cases qD ry;exact⟨_,_,rfl,rfl,k φ H _ (.refl _) R rfl⟩
theorem qAq{op:BOp}{ea eb:Expr}{pos:Pos}(ha:SE X G F ea a)(hb:SE X G F eb b):SE X G F (.BinOp ea (opB op) eb pos) (.bin op a b):=by
 refine qp (_L.pe_op (qBR op) ha hb) λσc H Q q=>?_;obtain⟨φ,h,σ,v,h',R,rs,e,k⟩:=q;unfold ev at e;obtain⟨⟨x,h1⟩,e1,e⟩:=tK e;obtain⟨⟨y,h2⟩,e2,e⟩:=tK e;exact jq R rs e1 e2 λφ2 H2 xc yc x2 R2 r1 r2=>qCZ e R2 r1 r2 λφ' H' w x' R' r'=>k φ' H' w (x2.trans x') R' r'
theorem qCw{ea:Expr}{pos:Pos}(ha:SE X G F ea a):SE X G F (.UnaryOp .USub ea pos) (.neg a):=by
 refine qp (_L.pe_un _L.un_neg ha) λσc H Q q=>?_;obtain⟨φ,h,σ,v,h',R,rs,e,k⟩:=q;unfold ev at e;obtain⟨⟨x,h1⟩,e1,e⟩:=tK e;refine⟨φ,h,σ,x,h1,R,rs,e1,λφ1 H1 xc x1 R1 r1=>?_⟩;dsimp only at e;split at e
 ·cases e;cases qD r1;exact⟨_,rfl,k φ1 H1 _ x1 R1 rfl⟩
 ·cases e
end
open PySem.SeqAt
structure Eq3(A:Around)(s:Shared)(u w:Value)(b:Bool):Prop where
 eq:EqAt A s u w b
 rc:RcAt A s u w b
 ne:RcNeAt A s u w (!b)
theorem Ja{A:Around}{s:Shared}{φ:List Addr}:∀{x y xc yc:V}{u w:Value}{b:Bool},eqF x y=some b->rv φ x xc->rv φ y yc->RelV xc u->RelV yc w->Eq3 A s u w b:=by
 intro x y xc yc u w b e rx ry ru rw';cases x with
 |non=>
  cases zM rx;cases ru;cases y with
  |non=>cases zM ry;cases rw';cases e;exact⟨.same _,.none_none,.none_none⟩
  |bl j=>cases zS ry;cases rw';cases e;exact⟨.none_bool _,.none_bool _,.none_bool _⟩
  |int j=>cases qD ry;obtain⟨t,rfl⟩:=rw';cases e;exact⟨.none_int _ _,.none_int _ _,.none_int _ _⟩
  |str j=>cases zd ry;obtain⟨t,rfl⟩:=rw';cases e;exact⟨.none_str _ _,.none_str _ _,.none_str _ _⟩
  |_=>cases e
 |bl i=>
  cases zS rx;cases ru;cases y with
  |non=>cases zM ry;cases rw';cases e;exact⟨.bool_none _,.bool_none _,.bool_none _⟩
  |bl j=>cases zS ry;cases rw';cases e;exact⟨.bool_bool _ _,.bool_bool _ _,.bool_bool _ _⟩
  |int j=>cases qD ry;obtain⟨t,rfl⟩:=rw';cases e;exact⟨.bool_int _ _ _,.bool_int _ _ _,.bool_int _ _ _⟩
  |str j=>cases zd ry;obtain⟨t,rfl⟩:=rw';cases e;exact⟨.bool_str _ _ _,.bool_str _ _ _,.bool_str _ _ _⟩
  |_=>cases e
 |int i=>
  cases qD rx;obtain⟨t,rfl⟩:=ru;cases y with
  |non=>cases zM ry;cases rw';cases e;exact⟨.int_none _ _,.int_none _ _,.int_none _ _⟩
  |bl j=>cases zS ry;cases rw';cases e;exact⟨.int_bool _ _ _,.int_bool _ _ _,.int_bool _ _ _⟩
  |int j=>cases qD ry;obtain⟨t,rfl⟩:=rw';cases e;exact⟨.int_int _ _ _ _,.int_int _ _ _ _,.int_int _ _ _ _⟩
  |str j=>cases zd ry;obtain⟨t,rfl⟩:=rw';cases e;exact⟨.int_str _ _ _ _,.int_str _ _ _ _,.int_str _ _ _ _⟩
  |_=>cases e
 |str i=>
  cases zd rx;obtain⟨t,rfl⟩:=ru;cases y with
  |non=>cases zM ry;cases rw';cases e;exact⟨.str_none _ _,.str_none _ _,.str_none _ _⟩
  |bl j=>cases zS ry;cases rw';cases e;exact⟨.str_bool _ _ _,.str_bool _ _ _,.str_bool _ _ _⟩
  |int j=>cases qD ry;obtain⟨t,rfl⟩:=rw';cases e;exact⟨.str_int _ _ _ _,.str_int _ _ _ _,.str_int _ _ _ _⟩
  |str j=>cases zd ry;obtain⟨t,rfl⟩:=rw';cases e;exact⟨.str_str _ _ _ _,.str_str _ _ _ _,.str_str _ _ _ _⟩
  |_=>cases e
 |_=>cases y<;>cases e
theorem G3{φ:List Addr}{x y w:V}{b:Bool}(e:eqF x y=some b)(rx:rv φ x w)(ry:rv φ y w):b=true:=by
 cases x with
 |non=>cases zM rx;cases y<;>first|exact False.elim ry|(cases e;rfl)|cases e
 |bl i=>cases zS rx;cases y<;>first|exact False.elim ry|(rename_i j;cases (show j=i from ry);cases e;simp)|cases e
 |int i=>cases qD rx;cases y<;>first|exact False.elim ry|(rename_i j;cases (show j=i from ry);cases e;simp)|cases e
 |str i=>cases zd rx;cases y<;>first|exact False.elim ry|(rename_i j;cases (show j=i from ry);cases e;simp)|cases e
 |_=>cases y<;>cases e
theorem Ql{f:V->V->Option Bool}:∀{xs ys:List V}{bs:List Bool},Qx f xs ys=some bs->bs.length=xs.length/\ys.length=xs.length/\∀(j:Nat) x y,xs[j]?=some x->ys[j]?=some y->∃b,bs[j]?=some b/\f x y=some b
 | [],[],bs,e=>by
  cases e;exact⟨rfl,rfl,λj x y h=>by simp at h⟩
 | [],_::_,_,e=>by cases e
 |_::_,[],_,e=>by cases e
 |x::xs,y::ys,bs,e=>by
  unfold Qx at e;split at e
  ·rename_i b bs' e1 e2;cases e;obtain⟨l1,l2,k⟩:=Ql e2;refine⟨by simp[l1],by simp[l2],λj u v h1 h2=>?_⟩;cases j with
   |zero=>simp at h1 h2;subst h1 h2;exact⟨b,rfl,e1⟩
   |succ j=>obtain⟨b',h3,h4⟩:=k j u v (by simpa using h1) (by simpa using h2);exact⟨b',by simpa using h3,h4⟩
  ·cases e
theorem Ji(bs:List Bool):(List.range bs.length).all (λj=>bs.getD j true)=bs.all id:=by
 rw[wl];simp only[List.all_eq_true,wZ,id];constructor
 ·intro h b hb;obtain⟨j,hj,rfl⟩:=List.mem_iff_getElem.mp hb;have:=h j hj;rw[wY,wD hj]at this;exact this
 ·intro h j hj;rw[wY,wD hj];exact h _ (vb hj)
section
variable{X:Cx}{G φ:List Addr}{h:AH}{H:Hp}{pins:List (Addr×Obj)}{σ:_L.St}{s:Shared}
theorem E5(I:Inv X pins σ H s)(R:Rl X.K G φ h H):∀(n:Nat){x y w:V}{b:Bool},eqD h n x y=some b->rv φ x w->rv φ y w->b=true
 | 0,x,y,w,b,e,rx,ry=>G3 e rx ry
 |n+1,x,y,w,b,e,rx,ry=>by
  have all:∀{xs ys zs:List V}{bs:List Bool},rvs φ xs zs->rvs φ ys zs->Qx (eqD h n) xs ys=some bs->bs.all id=true:=λ{xs ys zs bs} r1 r2 e=>by
   obtain⟨l1,l2,k⟩:=Ql e;rw[List.all_eq_true];intro b hb;obtain⟨j,hj,rfl⟩:=List.mem_iff_getElem.mp hb;have hx:j<xs.length:=by omega
   have hy:j<ys.length:=by omega
   obtain⟨b',hb',e'⟩:=k j _ _ (wD hx) (wD hy);rw[wD hj]at hb';cases hb';obtain⟨z,hz,q1⟩:=qT r1 (wD hx);obtain⟨z',hz',q2⟩:=qT r2 (wD hy);rw[hz]at hz';cases hz';exact E5 I R n e' q1 q2
  cases x with
  |ref a=>
   obtain⟨p,rfl,hp⟩:=qL rx;cases y with
   |ref c=>
    have hc:φ[c]?=some p:=ry;simp only[eqD]at e;split at e
    ·rename_i f1 xs f2 ys e1 e2;split at e
     ·cases e;rfl
     ·obtain⟨p1,z1,q1,s1,r1⟩:=R.lst (i:=a) (xs:=xs) (by unfold qO;rw[e1]);obtain⟨p2,z2,q2,s2,r2⟩:=R.lst (i:=c) (xs:=ys) (by unfold qO;rw[e2]);rw[hp]at q1;cases q1;rw[hc]at q2;cases q2;have:=I.list_inj s1 s2;subst this;split at e
      ·obtain⟨bs,e3,rfl⟩:=wA.mp e;exact all r1 r2 e3
      ·rename_i hne;exact absurd ((Paired.length r1).trans (Paired.length r2).symm) hne
    ·rename_i xs ys e1 e2;split at e
     ·cases e;rfl
     ·obtain⟨p1,z1,q1,s1,r1⟩:=R.tup (i:=a) (xs:=xs) (by unfold qX;rw[e1]);obtain⟨p2,z2,q2,s2,r2⟩:=R.tup (i:=c) (xs:=ys) (by unfold qX;rw[e2]);rw[hp]at q1;cases q1;rw[hc]at q2;cases q2;have:=I.tuple_inj s1 s2;subst this;split at e
      ·obtain⟨bs,e3,rfl⟩:=wA.mp e;exact all r1 r2 e3
      ·rename_i hne;exact absurd ((Paired.length r1).trans (Paired.length r2).symm) hne
    ·rename_i f1 xs ys e1 e2;obtain⟨p1,z1,q1,s1,r1⟩:=R.lst (i:=a) (xs:=xs) (by unfold qO;rw[e1]);obtain⟨p2,z2,q2,s2,r2⟩:=R.tup (i:=c) (xs:=ys) (by unfold qX;rw[e2]);rw[hp]at q1;cases q1;rw[hc]at q2;cases q2;obtain⟨i1,_,t1,_⟩:=I.list s1;obtain⟨i2,_,t2,_⟩:=I.tuple s2;exact absurd rfl (ne_of_list_tuple t1.isList t2)
    ·rename_i xs f1 ys e1 e2;obtain⟨p1,z1,q1,s1,r1⟩:=R.tup (i:=a) (xs:=xs) (by unfold qX;rw[e1]);obtain⟨p2,z2,q2,s2,r2⟩:=R.lst (i:=c) (xs:=ys) (by unfold qO;rw[e2]);rw[hp]at q1;cases q1;rw[hc]at q2;cases q2;obtain⟨i1,_,t1,_⟩:=I.tuple s1;obtain⟨i2,_,t2,_⟩:=I.list s2;exact absurd rfl (ne_of_list_tuple t2.isList t1)
    ·cases e
   |_=>exact False.elim ry
  |_=>
   cases y with
   |ref c=>
    obtain⟨p,rfl,hp⟩:=qL ry;exact False.elim rx
   |_=>exact G3 e rx ry
theorem U8(I:Inv X pins σ H s)(R:Rl X.K G φ h H):∀(n:Nat){A:Around}{x y xc yc:V}{u w:Value}{b:Bool},A.units+n<cLine->eqD h n x y=some b->rv φ x xc->rv φ y yc->RelV xc u->RelV yc w->Eq3 A s u w b
 | 0,A,x,y,xc,yc,u,w,b,hu,e,rx,ry,ru,rw'=>Ja e rx ry ru rw'
 |n+1,A,x,y,xc,yc,u,w,b,hu,e,rx,ry,ru,rw'=>by
  have hu0:A.units<cLine:=by omega
  have hu1:A.in1.units+n<cLine:=by show A.units+1+n<cLine;omega
  have item:∀{xs ys zs ts:List V}{us ws:List Value}{bs:List Bool},rvs φ xs zs->rvs φ ys ts->Vals zs us->Vals ts ws->Qx (eqD h n) xs ys=some bs->us.length=bs.length/\ws.length=bs.length/\
    ∀(j:Nat) (h1:j<us.toArray.size) (h2:j<ws.toArray.size),EqAt A.in1 s us.toArray[j] ws.toArray[j] (bs.getD j true):=λ{xs ys zs ts us ws bs} r1 r2 v1 v2 e=>by
   obtain⟨l1,l2,k⟩:=Ql e;have n1:=Paired.length r1;have n2:=Paired.length r2;have n3:=v1.length;have n4:=v2.length;refine⟨by omega,by omega,λj h1 h2=>?_⟩;have g1:j<us.length:=by simpa using h1
   have g2:j<ws.length:=by simpa using h2
   have hx:j<xs.length:=by omega
   have hy:j<ys.length:=by omega
   obtain⟨b',hb',e'⟩:=k j _ _ (wD hx) (wD hy);obtain⟨z,hz,q1⟩:=qT r1 (wD hx);obtain⟨t,ht,q2⟩:=qT r2 (wD hy);obtain⟨u',hu',q3⟩:=v1.get hz;obtain⟨w',hw',q4⟩:=v2.get ht;rw[wD g1]at hu';rw[wD g2]at hw';cases hu';cases hw';rw[wY,hb'];have:=(U8 I R n (A:=A.in1) hu1 e' q1 q2 q3 q4).eq;simpa using this
  have refs:∀{a:Nat}{p:Addr}{v:V}{b:Bool},φ[a]?=some p->(if (items h a).isSome&&flat v then some false else none)=some b->b=false/\∃its,s.heap.IsList p its\/s.heap.IsTuple p its:=λ{a p v b} hp e=>by
   cases ea:h[a]? with
   |none=>rw[show items h a=none from(by unfold items;rw[ea])]at e;cases e
   |some o=>
    have hb:b=false:=by
     split at e
     ·cases e;rfl
     ·cases e
    refine⟨hb,?_⟩;cases o with
    |lst f xs=>
     obtain⟨p1,z1,q1,s1,r1⟩:=R.lst (i:=a) (xs:=xs) (by unfold qO;rw[ea]);rw[hp]at q1;cases q1;obtain⟨i1,_,t1,_⟩:=I.list s1;exact⟨_,.inl t1.isList⟩
    |tup xs=>
     obtain⟨p1,z1,q1,s1,r1⟩:=R.tup (i:=a) (xs:=xs) (by unfold qX;rw[ea]);rw[hp]at q1;cases q1;obtain⟨i1,_,t1,_⟩:=I.tuple s1;exact⟨_,.inr t1⟩
    |ob ks=>rw[show items h a=none from(by unfold items;rw[ea])]at e;cases e
  cases x with
  |ref a=>
   obtain⟨p,rfl,hp⟩:=qL rx;cases ru;cases y with
   |ref c=>
    obtain⟨q,rfl,hq⟩:=qL ry;cases rw';have same:p=q->b=true:=λz=>by
     subst z;exact E5 I R (n+1) e rx (show rv φ (.ref c) (.ref p) from hq)
    simp only[eqD]at e;split at e
    ·rename_i f1 xs f2 ys e1 e2;obtain⟨p1,z1,q1,s1,r1⟩:=R.lst (i:=a) (xs:=xs) (by unfold qO;rw[e1]);obtain⟨p2,z2,q2,s2,r2⟩:=R.lst (i:=c) (xs:=ys) (by unfold qO;rw[e2]);rw[hp]at q1;cases q1;rw[hq]at q2;cases q2;obtain⟨i1,v1,t1,_⟩:=I.list s1;obtain⟨i2,v2,t2,_⟩:=I.list s2;split at e
     ·rename_i hac;subst hac;rw[hp]at hq;cases hq;cases e;have rc:=RcAt.lists (A:=A) (e:=λ_=>true) t1.isList t1.isList rfl hu0 λj _ _=>EqAt.same _;have ne:=RcNeAt.lists (A:=A) (e:=λ_=>true) t1.isList t1.isList rfl hu0 λj _ _=>EqAt.same _;have al:∀l:List Nat,(l.all λ_=>true)=true:=λl=>by simp
      rw[al]at rc ne;exact⟨.same _,rc,ne⟩
     ·split at e
      ·obtain⟨bs,e3,rfl⟩:=wA.mp e;obtain⟨m1,m2,he⟩:=item r1 r2 v1 v2 e3;have hsz:i1.toArray.size=i2.toArray.size:=by simp;omega
       have rc:=RcAt.lists (A:=A) (e:=λj=>bs.getD j true) t1.isList t2.isList hsz hu0 he;have ne:=RcNeAt.lists (A:=A) (e:=λj=>bs.getD j true) t1.isList t2.isList hsz hu0 he;have sz:i1.toArray.size=bs.length:=by simpa using m1
       rw[sz,Ji]at rc ne;refine⟨?_,rc,ne⟩;by_cases hpq:p=q
       ·rw[same hpq];subst hpq;exact .same _
       ·exact .of_refs hpq rc
      ·rename_i hl;cases e;have n1:=Paired.length r1;have n2:=Paired.length r2;have n3:=v1.length;have n4:=v2.length;have hsz:(i1.toArray.size != i2.toArray.size)=true:=by simp;omega
       have rc:=RcAt.lists_lengths (A:=A) t1.isList t2.isList hsz hu0;have ne:=RcNeAt.lists_lengths (A:=A) t1.isList t2.isList hsz hu0;refine⟨?_,rc,ne⟩;by_cases hpq:p=q
       ·exact absurd (same hpq) (by decide)
       ·exact .of_refs hpq rc
    ·rename_i xs ys e1 e2;obtain⟨p1,z1,q1,s1,r1⟩:=R.tup (i:=a) (xs:=xs) (by unfold qX;rw[e1]);obtain⟨p2,z2,q2,s2,r2⟩:=R.tup (i:=c) (xs:=ys) (by unfold qX;rw[e2]);rw[hp]at q1;cases q1;rw[hq]at q2;cases q2;obtain⟨i1,v1,t1,_⟩:=I.tuple s1;obtain⟨i2,v2,t2,_⟩:=I.tuple s2;have t1':s.heap.IsTuple p i1.toArray:=t1;have t2':s.heap.IsTuple q i2.toArray:=t2;split at e
     ·rename_i hac;subst hac;rw[hp]at hq;cases hq;cases e;have rc:=RcAt.tuples (A:=A) (e:=λ_=>true) t1' t1' hu0 λj _ _=>EqAt.same _;have ne:=RcNeAt.tuples (A:=A) (e:=λ_=>true) t1' t1' hu0 λj _ _=>EqAt.same _;have al:∀l:List Nat,(l.all λ_=>true)=true:=λl=>by simp
      rw[al]at rc ne;simp only[uM,Bool.and_self]at rc ne;exact⟨.same _,rc,ne⟩
     ·split at e
      ·obtain⟨bs,e3,rfl⟩:=wA.mp e;obtain⟨m1,m2,he⟩:=item r1 r2 v1 v2 e3;have hsz:i1.toArray.size=i2.toArray.size:=by simp;omega
       have rc:=RcAt.tuples (A:=A) (e:=λj=>bs.getD j true) t1' t2' hu0 he;have ne:=RcNeAt.tuples (A:=A) (e:=λj=>bs.getD j true) t1' t2' hu0 he;have sz:i1.toArray.size=bs.length:=by simpa using m1
       have sz2:i2.toArray.size=bs.length:=by simpa using m2
       rw[sz,sz2,Nat.min_self,Ji,uM,vM]at rc ne;refine⟨?_,rc,ne⟩;by_cases hpq:p=q
       ·rw[same hpq];subst hpq;exact .same _
       ·exact .of_refs hpq rc
      ·rename_i hl;have n1:=Paired.length r1;have n2:=Paired.length r2;have n3:=v1.length;have n4:=v2.length;obtain⟨bs,e3,hb⟩:=wA.mp e;subst hb;have hsz:(i1.toArray.size==i2.toArray.size)=false:=by simp;omega
       obtain⟨m1,m2,he⟩:=item (zw ys.length r1) (zw xs.length r2) (v1.take ys.length) (v2.take xs.length) e3;have he':∀(j:Nat) (h1:j<i1.toArray.size) (h2:j<i2.toArray.size),EqAt A.in1 s i1.toArray[j] i2.toArray[j] (bs.getD j true):=λj h1 h2=>by
        have g1:j<i1.length:=by simpa using h1
        have g2:j<i2.length:=by simpa using h2
        have:=he j (by simp;omega) (by simp;omega);simpa using this
       have rc:=RcAt.tuples (A:=A) (e:=λj=>bs.getD j true) t1' t2' hu0 he';have ne:=RcNeAt.tuples (A:=A) (e:=λj=>bs.getD j true) t1' t2' hu0 he';rw[hsz,Bool.and_false]at rc ne;refine⟨?_,rc,ne⟩;by_cases hpq:p=q
       ·exact absurd (same hpq) (by decide)
       ·exact .of_refs hpq rc
    ·rename_i f1 xs ys e1 e2;cases e;obtain⟨p1,z1,q1,s1,r1⟩:=R.lst (i:=a) (xs:=xs) (by unfold qO;rw[e1]);obtain⟨p2,z2,q2,s2,r2⟩:=R.tup (i:=c) (xs:=ys) (by unfold qX;rw[e2]);rw[hp]at q1;cases q1;rw[hq]at q2;cases q2;obtain⟨i1,_,t1,_⟩:=I.list s1;obtain⟨i2,_,t2,_⟩:=I.tuple s2;exact⟨.list_tuple t1.isList t2 hu0,.list_tuple t1.isList t2 hu0,.list_tuple t1.isList t2 hu0⟩
    ·rename_i xs f1 ys e1 e2;cases e;obtain⟨p1,z1,q1,s1,r1⟩:=R.tup (i:=a) (xs:=xs) (by unfold qX;rw[e1]);obtain⟨p2,z2,q2,s2,r2⟩:=R.lst (i:=c) (xs:=ys) (by unfold qO;rw[e2]);rw[hp]at q1;cases q1;rw[hq]at q2;cases q2;obtain⟨i1,_,t1,_⟩:=I.tuple s1;obtain⟨i2,_,t2,_⟩:=I.list s2;exact⟨.tuple_list t1 t2.isList hu0,.tuple_list t1 t2.isList hu0,.tuple_list t1 t2.isList hu0⟩
    ·cases e
   |non=>
    cases zM ry;cases rw';rcases refs hp (show (if (items h a).isSome&&flat V.non then some false else none)=some b from e) with⟨rfl,its,t|t⟩
    ·exact⟨.list_none t hu0,.list_none t hu0,.list_none t hu0⟩
    ·exact⟨.tuple_none t hu0,.tuple_none t hu0,.tuple_none t hu0⟩
   |bl j=>
    cases zS ry;cases rw';rcases refs hp (show (if (items h a).isSome&&flat (V.bl j) then some false else none)=some b from e) with⟨rfl,its,t|t⟩
    ·exact⟨.list_bool _ t hu0,.list_bool _ t hu0,.list_bool _ t hu0⟩
    ·exact⟨.tuple_bool _ t hu0,.tuple_bool _ t hu0,.tuple_bool _ t hu0⟩
   |int j=>
    cases qD ry;obtain⟨t',rfl⟩:=rw';rcases refs hp (show (if (items h a).isSome&&flat (V.int j) then some false else none)=some b from e) with⟨rfl,its,t|t⟩
    ·exact⟨.list_int _ _ t hu0,.list_int _ _ t hu0,.list_int _ _ t hu0⟩
    ·exact⟨.tuple_int _ _ t hu0,.tuple_int _ _ t hu0,.tuple_int _ _ t hu0⟩
   |str j=>
    cases zd ry;obtain⟨t',rfl⟩:=rw';rcases refs hp (show (if (items h a).isSome&&flat (V.str j) then some false else none)=some b from e) with⟨rfl,its,t|t⟩
    ·exact⟨.list_str _ _ t hu0,.list_str _ _ t hu0,.list_str _ _ t hu0⟩
    ·exact⟨.tuple_str _ _ t hu0,.tuple_str _ _ t hu0,.tuple_str _ _ t hu0⟩
   |_=>exact False.elim ry
  |non=>
   cases y with
   |ref c=>
    obtain⟨p,rfl,hp⟩:=qL ry;cases rw';cases zM rx;cases ru;rcases refs hp (show (if (items h c).isSome&&flat V.non then some false else none)=some b from(Bool.and_comm _ _) ▸ e) with⟨rfl,its,t|t⟩
    ·exact⟨.none_list t hu0,.none_list t hu0,.none_list t hu0⟩
    ·exact⟨.none_tuple t hu0,.none_tuple t hu0,.none_tuple t hu0⟩
   |_=>exact Ja e rx ry ru rw'
  |bl i=>
   cases y with
   |ref c=>
    obtain⟨p,rfl,hp⟩:=qL ry;cases rw';cases zS rx;cases ru;rcases refs hp (show (if (items h c).isSome&&flat (V.bl i) then some false else none)=some b from(Bool.and_comm _ _) ▸ e) with⟨rfl,its,t|t⟩
    ·exact⟨.bool_list _ t hu0,.bool_list _ t hu0,.bool_list _ t hu0⟩
    ·exact⟨.bool_tuple _ t hu0,.bool_tuple _ t hu0,.bool_tuple _ t hu0⟩
   |_=>exact Ja e rx ry ru rw'
  |int i=>
   cases y with
   |ref c=>
    obtain⟨p,rfl,hp⟩:=qL ry;cases rw';cases qD rx;obtain⟨t',rfl⟩:=ru;rcases refs hp (show (if (items h c).isSome&&flat (V.int i) then some false else none)=some b from(Bool.and_comm _ _) ▸ e) with⟨rfl,its,t|t⟩
    ·exact⟨.int_list _ _ t hu0,.int_list _ _ t hu0,.int_list _ _ t hu0⟩
    ·exact⟨.int_tuple _ _ t hu0,.int_tuple _ _ t hu0,.int_tuple _ _ t hu0⟩
   |_=>exact Ja e rx ry ru rw'
  |str i=>
   cases y with
   |ref c=>
    obtain⟨p,rfl,hp⟩:=qL ry;cases rw';cases zd rx;obtain⟨t',rfl⟩:=ru;rcases refs hp (show (if (items h c).isSome&&flat (V.str i) then some false else none)=some b from(Bool.and_comm _ _) ▸ e) with⟨rfl,its,t|t⟩
    ·exact⟨.str_list _ _ t hu0,.str_list _ _ t hu0,.str_list _ _ t hu0⟩
    ·exact⟨.str_tuple _ _ t hu0,.str_tuple _ _ t hu0,.str_tuple _ _ t hu0⟩
   |_=>exact Ja e rx ry ru rw'
  |_=>cases xc<;>exact False.elim rx
end
theorem Zq{φ:List Addr}:∀{x w:V},flat x=true->rv φ x w->w=x
 | .non,_,_,h=>zM h
 | .bl _,_,_,h=>zS h
 | .int _,_,_,h=>qD h
 | .str _,_,_,h=>zd h
 | .ref _,_,f,_=>by cases f
 | .byt _,_,f,_=>by cases f
 | .flt _,_,f,_=>by cases f
 | .ty _,_,f,_=>by cases f
theorem zR{φ:List Addr}:∀{xs ws:List V},xs.all flat=true->rvs φ xs ws->ws=xs
 |_,_,_,.nil=>rfl
 |x::xs,w::ws,f,.cons r t=>by
  simp only[List.all_cons,wE]at f;rw[Zq f.1 r,zR f.2 t]
theorem QQ:∀x:V,_L.flatV x=flat x:=by intro x;cases x<;>rfl
theorem Qm(xs:List V):xs.all _L.flatV=xs.all flat:=by
 induction xs with
 |nil=>rfl
 |cons x xs ih=>rw[List.all_cons,List.all_cons,ih,QQ]
section
variable{X:Cx}{G:List Addr}{F:Nat->List V->AH->RV}
noncomputable def opC:COp->CmpOp
 | .lt=>.Lt | .le=>.LtE | .gt=>.Gt | .ge=>.GtE | .eq=>.Eq | .ne=>.NotEq | .inn=>.In | .notin=>.NotIn | .is=>.Is | .isnot=>.IsNot
variable (X G) in
noncomputable def qEo(op:COp):R2:=λx y H Q=>∃φ h xa ya b,Rl X.K G φ h H/\rv φ xa x/\rv φ ya y/\P5 op xa ya h=some b/\Q (.bl b) H
theorem F9{φ:List Addr}{x y:V}(r:rv φ x y):decide (x=V.non)=decide (y=V.non):=by
 by_cases hx:x=V.non
 ·subst hx;cases zM r;rfl
 ·have hy:y≠V.non:=λhy=>by subst hy;cases x<;>first|exact hx rfl|exact False.elim r
  rw[uH hx,uH hy]
theorem A8(kvs:List (Int×V))(i:Int):((kvs.map kk).any λkv=>decide (kv.1=Sum.inl i))=Qz kvs i:=by
 unfold Qz;rw[List.any_map];congr 1
 funext p
 show decide ((Sum.inl p.1:_L.Key)=Sum.inl i)=_;rw[wl];simp
theorem S8(kvs:List (Int×V))(i:Int)(v:V):_L.putK (kvs.map kk) (Sum.inl i:_L.Key) v=(QF kvs i v).map kk:=by
 unfold _L.putK QF;rw[A8];split
 ·rw[vI,vI];congr 1
  funext p
  show (if (Sum.inl p.1:_L.Key)=Sum.inl i then ((Sum.inl p.1:_L.Key),v) else kk p)=kk (if p.1=i then (p.1,v) else p);by_cases h:p.1=i
  ·rw[if_pos (by rw[h]),if_pos h];rfl
  ·rw[if_neg (λz=>h (Sum.inl.inj z)),if_neg h]
 ·rw[wk];rfl
theorem jn(hu:X.A.units+8<cLine):∀op,OpR X (compareOp (opC op)) (qEo X G op):=by
 intro op pins s σ H x y v u Q I rx ry ⟨φ,h,xa,ya,b,R,r1,r2,e,q⟩;have hin:∀(neg:Bool){p:Nat}{ya':V}(e:(match items h p with|some xs=>if flat xa&&xs.all flat then some (if neg then !(xs.any λy=>_L.eqV y xa) else xs.any λy=>_L.eqV y xa) else none|none=>none)=some b),rv φ (.ref p) y->_L.rIn X.K neg x y H Q:=by
  intro neg p ya' e r2;split at e
  ·rename_i xs ex;split at e
   ·rename_i hf;simp only[wE]at hf;obtain⟨a,ys,ha,hs,rs⟩:=R.its ex;obtain⟨a',rfl,ha'⟩:=qL r2;rw[ha]at ha';cases ha';have e1:=Zq hf.1 r1;have e2:=zR hf.2 rs;subst e1 e2;refine⟨a,ys,rfl,hs,by rw[QQ];exact hf.1,by rw[Qm];exact hf.2,?_⟩;cases e;exact q
   ·cases e
  ·cases e
 cases op with
 |lt=>
  replace e:=QL e;obtain⟨i,j,rfl,rfl,rfl⟩:=e;cases qD r1;cases qD r2;exact _L.op_lt pins s σ H _ _ v u Q I rx ry ⟨_,_,rfl,rfl,q⟩
 |le=>
  replace e:=QL e;obtain⟨i,j,rfl,rfl,rfl⟩:=e;cases qD r1;cases qD r2;exact _L.op_le pins s σ H _ _ v u Q I rx ry ⟨_,_,rfl,rfl,q⟩
 |gt=>
  replace e:=QL e;obtain⟨i,j,rfl,rfl,rfl⟩:=e;cases qD r1;cases qD r2;exact _L.op_gt pins s σ H _ _ v u Q I rx ry ⟨_,_,rfl,rfl,q⟩
 |ge=>
  replace e:=QL e;obtain⟨i,j,rfl,rfl,rfl⟩:=e;cases qD r1;cases qD r2;exact _L.op_ge pins s σ H _ _ v u Q I rx ry ⟨_,_,rfl,rfl,q⟩
 |eq=>exact(U8 I R 4 (by omega) (show eqD h 4 xa ya=some b from e) r1 r2 rx ry).rc _ _ _ _ ⟨.bl b,H,I,rfl,q⟩
 |ne=>
  have e':(eqD h 4 xa ya).map (!·)=some b:=e;obtain⟨c,e1,rfl⟩:=wA.mp e';exact(U8 I R 4 (by omega) e1 r1 r2 rx ry).ne _ _ _ _ ⟨.bl (!c),H,I,rfl,q⟩
 |inn=>
  replace e:=L3 e;obtain⟨p,rfl,e⟩:=e;cases ei:items h p with
  |some xs=>exact _L.op_in_seq pins s σ H x y v u Q I rx ry (hin false (ya':=.non) (by rw[ei]at e ⊢;exact e) r2)
  |none=>
   rw[ei]at e;dsimp only at e;split at e
   ·rename_i kvs ed;split at e
    ·rename_i i;cases e;obtain⟨a,ks,ea,_,hH,rk⟩:=R.dct ed;obtain⟨a',rfl,ha'⟩:=qL r2;rw[ea]at ha';cases ha';cases qD r1;cases ry;refine _L.d_in (by omega) I (_L.DGet.k (k:=.inl i) hH) rx λs' I'=>⟨.bl (_L.valV (ks.map kk) (Sum.inl i)).isSome,H,I',rfl,?_⟩
     rw[<-_L.valV_any,A8,rk.has];exact q
    ·cases e
   ·cases e
 |notin=>
  replace e:=L3 e;obtain⟨p,rfl,e⟩:=e;cases ei:items h p with
  |some xs=>exact _L.op_notIn_seq pins s σ H x y v u Q I rx ry (hin true (ya':=.non) (by rw[ei]at e ⊢;exact e) r2)
  |none=>
   rw[ei]at e;dsimp only at e;split at e
   ·rename_i kvs ed;split at e
    ·rename_i i;cases e;obtain⟨a,ks,ea,_,hH,rk⟩:=R.dct ed;obtain⟨a',rfl,ha'⟩:=qL r2;rw[ea]at ha';cases ha';cases qD r1;cases ry;refine _L.d_notIn (by omega) I (_L.DGet.k (k:=.inl i) hH) rx λs' I'=>⟨.bl (!(_L.valV (ks.map kk) (Sum.inl i)).isSome),H,I',rfl,?_⟩
     rw[<-_L.valV_any,A8,rk.has];exact q
    ·cases e
   ·cases e
 |is=>
  rcases W7 (show isC xa ya id=some b from e) with⟨rfl,rfl⟩|⟨c,d,rfl,rfl,rfl⟩
  ·cases zM r2;rw[F9 r1]at q;exact _L.op_isN pins s σ H x _ v u Q I rx ry ⟨rfl,q⟩
  ·cases zS r1;cases zS r2;cases (show v=Value.bool c from rx);cases (show u=Value.bool d from ry);exact PySem.wpAny_is_plain rfl ⟨.bl (c==d),H,I,(by cases c<;>cases d<;>rfl),q⟩
 |isnot=>
  rcases W7 (show isC xa ya (!·)=some b from e) with⟨rfl,rfl⟩|⟨c,d,rfl,rfl,rfl⟩
  ·cases zM r2;rw[F9 r1]at q;exact _L.op_notN pins s σ H x _ v u Q I rx ry ⟨rfl,q⟩
  ·cases zS r1;cases zS r2;cases (show v=Value.bool c from rx);cases (show u=Value.bool d from ry);exact PySem.wpAny_isNot_plain rfl ⟨.bl (!(c==d)),H,I,(by cases c<;>cases d<;>rfl),q⟩
theorem G1:∀{bs:List Bool}{us:List Value},Vals (bs.map V.bl) us->LSm.BoolsAre us bs
 | [],_,.nil=>.nil
 |b::bs,u::us,.cons r t=>by
  cases (show u=Value.bool b from r);exact .cons b (G1 t)
theorem N3{A:Around}{E:Value->Shared->Prop}{prog:Program}{w:World}{s:Shared}{l:Addr}{vs:List Value}{bs:List Bool}{Q:Value->Shared->Prop}(hh:A.handled=none)(hl:s.heap.IsList l vs.toArray)(hb:LSm.BoolsAre vs bs)
  (h:∀h' tk,(∀b x,s.heap.get? b=some x->h'.get? b=some x)->Q (.bool (bs.all id)) { s with heap:=h',toks:=tk }):wpAny (model prog w) A (call (.builtin "all") [.ref l]) Q E s:=by
 have hlt:l<s.heap.objs.size:=by obtain⟨_,e,_⟩:=hl;exact Heap.lt_size e
 refine call_all_walk (wpAny_pyIter_list hl ?_);refine⟨s.heap.objs.size,[s.heap.objs.size,l],[s.heap.objs.size],vs.toArray.size,_,_,λi=>(bs[i]?).getD true,rfl,Walks.list (A:=A.in1) hh _ l (wj hlt) vs.toArray,
  ⟨⟨_,Heap.get?_push_size _ rfl,rfl,rfl⟩,hl.push _⟩,λi v s' Q' E' hP hQ=>?_,λh' tk hk=>?_⟩
 ·obtain⟨b,e,rfl⟩:=hb.get i v (by simpa using hP);simp only[e,Option.getD_some]at hQ;exact uL hQ
 ·have e:((List.range vs.toArray.size).all λi=>(bs[i]?).getD true)=bs.all id:=by
   rw[wO,hb.length];exact LSm.range_all bs
  rw[e];exact h h' tk (LSm.kept_iter hk)
theorem A2{A:Around}{E:Value->Shared->Prop}{prog:Program}{w:World}{s:Shared}{l:Addr}{vs:List Value}{ns:List Int}{M:Int}{Q:Value->Shared->Prop}(hh:A.handled=none)(hl:s.heap.IsList l vs.toArray)(hi:IntsAre vs ns)(hM:qCP ns=some M)
  (h:∀h' tk (t:Tok),(∀b x,s.heap.get? b=some x->h'.get? b=some x)->Q (.int M t) { s with heap:=h',toks:=tk }):wpAny (model prog w) A (call (.builtin "max") [.ref l]) Q E s:=by
 obtain⟨m1,m2⟩:=j7 hM;obtain⟨xs,e⟩:=hi.allInts.items;have hns:ns=xs.toList.map (·.1):=by rw[<-hi.numsOf,<-nums_intItems,<-e]
 have hsz:0<xs.size:=by
  have h3:=List.length_pos_of_mem m1;rw[hns,wK,vD]at h3;exact h3
 rw[e]at hl;refine max_intList hh hl hsz λv h' tk hv hk=>?_;obtain⟨t,rfl⟩:=intItems_at hv;obtain⟨h1,h2⟩:=argBest_gt (numAt xs) (xs.size-1);have e1:numAt xs (argBest (λi j=>decide (numAt xs i>numAt xs j)) (xs.size-1))=M:=by
  refine Int.le_antisymm (m2 _ ?_) ?_
  ·rw[hns,numAt_eq];exact getD_mem (by rw[wK,vD];omega)
  ·have ha:=m1;rw[hns]at ha;obtain⟨j,hj,e2⟩:=mem_getD ha;rw[wK,vD]at hj;rw[<-e2,<-numAt_eq];exact h2 j (by omega)
 rw[e1];exact h h' tk t hk
theorem Jv:∀{xs:List V}{is:List Int}{us:List Value},jD xs=some is->Vals xs us->us.length=is.length/\∀i v,us[i]?=some v->NumOf (is.getD i 0) v
 | [],is,_,e,.nil=>by cases e;exact⟨rfl,λi v e=>by simp at e⟩
 |x::r,is,u::us,e,.cons a t=>by
  unfold jD at e;split at e
  ·rename_i e';cases e'
  ·rename_i e';cases e';obtain⟨js,e1,rfl⟩:=wA.mp e;obtain⟨l,g⟩:=Jv e1 t;refine⟨by simp[l],λi v q=>?_⟩;cases i with
   |zero=>
    cases q;obtain⟨w,rfl⟩:=a;exact .inl ⟨w,rfl⟩
   |succ i=>exact g i v q
  ·rename_i e';cases e';obtain⟨js,e1,rfl⟩:=wA.mp e;obtain⟨l,g⟩:=Jv e1 t;refine⟨by simp[l],λi v q=>?_⟩;cases i with
   |zero=>
    cases q;exact .inr ⟨_,a,rfl⟩
   |succ i=>exact g i v q
  ·cases e
theorem Qu:∀{xs:List V}{is:List Int},jD xs=some is->xs.all flat=true
 | [],_,_=>rfl
 |x::r,is,e=>by
  unfold jD at e;split at e
  ·rename_i e';cases e'
  ·rename_i e';cases e';obtain⟨js,e1,rfl⟩:=wA.mp e;rw[List.all_cons,Qu e1];rfl
  ·rename_i e';cases e';obtain⟨js,e1,rfl⟩:=wA.mp e;rw[List.all_cons,Qu e1];rfl
  ·cases e
theorem P3{A:Around}{E:Value->Shared->Prop}{prog:Program}{w:World}{s:Shared}{l:Addr}{vs:List Value}{xs:List V}{is:List Int}{Q:Value->Shared->Prop}(hh:A.handled=none)(hl:s.heap.IsList l vs.toArray)(ei:jD xs=some is)(hb:Vals xs vs)
  (h:∀h' tk t',(∀b x,s.heap.get? b=some x->h'.get? b=some x)->Q (.int is.sum t') { s with heap:=h',toks:=tk }):wpAny (model prog w) A (call (.builtin "sum") [.ref l]) Q E s:=by
 have hlt:l<s.heap.objs.size:=by obtain⟨_,e,_⟩:=hl;exact Heap.lt_size e
 obtain⟨hlen,hn⟩:=Jv ei hb;refine call_sum_walkAnyB (wpAny_pyIter_list hl ?_);refine⟨s.heap.objs.size,_,_,_,_,_,_,λi=>is.getD i 0,rfl,(Walks.list (prog:=prog) (w:=w) (A:=A.in1) hh s.heap.objs.size l (wj hlt) vs.toArray).toS,
  ⟨⟨_,Heap.get?_push_size _ rfl,rfl,rfl⟩,hl.push _⟩,λb hb=>?_,λi v hP=>hn i v (by simpa using hP),λs' t' hm=>?_⟩
 ·rcases wJ.mp hb with rfl|hb
  ·exact Heap.lt_size (Heap.get?_push_size _ rfl)
  ·obtain rfl:=wP.mp hb;obtain⟨_,e,_⟩:=hl;exact Heap.lt_size (Heap.get?_push_of_some _ e)
 ·obtain⟨h',g',d',tk',os'⟩:=s';have e1:g'=s.gens:=hm.gens;have e2:d'=s.drawn:=hm.drawn;have e3:os'=s.os:=hm.os;subst e1 e2 e3;have e:=preSum_getD is vs.toArray.size;rw[wO,hlen,List.take_of_length_le (wM _),<-hlen,<-wO]at e;rw[e];exact h h' tk' t' λb o e=>hm.heap b o (λhb=>absurd (Heap.lt_size e) ((wP.mp hb) ▸ wp _)) (Heap.get?_push_of_some _ e)
theorem zo:∀{xs:List V}{is:List Int},zy xs=some is->xs=is.map V.int
 | [],is,e=>by cases e;rfl
 | .int i::r,is,e=>by
  simp only[zy]at e;obtain⟨js,e1,rfl⟩:=wA.mp e;rw[zo e1];rfl
 | .non::_,_,e=>by cases e
 | .bl _::_,_,e=>by cases e
 | .str _::_,_,e=>by cases e
 | .ref _::_,_,e=>by cases e
 | .byt _::_,_,e=>by cases e
 | .flt _::_,_,e=>by cases e
 | .ty _::_,_,e=>by cases e
theorem Qk:∀{xs:List V}{is:List Bool},jx xs=some is->xs=is.map V.bl
 | [],is,e=>by cases e;rfl
 | .bl i::r,is,e=>by
  simp only[jx]at e;obtain⟨js,e1,rfl⟩:=wA.mp e;rw[Qk e1];rfl
 | .non::_,_,e=>by cases e
 | .int _::_,_,e=>by cases e
 | .str _::_,_,e=>by cases e
 | .ref _::_,_,e=>by cases e
 | .byt _::_,_,e=>by cases e
 | .flt _::_,_,e=>by cases e
 | .ty _::_,_,e=>by cases e
theorem jh:∀{us:List Value}{ns:List Int},IntsAre us ns->Vals (ns.map V.int) us
 |_,_,.nil=>.nil
 |_,_,.cons n t r=>.cons ⟨_,rfl⟩ (jh r)
theorem Jm(is:List Int):(is.map V.int).all flat=true:=by simp[flat]
theorem N6(is:List Bool):(is.map V.bl).all flat=true:=by simp[flat]
noncomputable def fnB:BF->Value
 | .len=>.builtin "len" | .sum=>.builtin "sum" | .all=>.builtin "all" | .max=>.builtin "max" | .min=>.builtin "min"
 | .list=>.type "list" | .int=>.type "int" | .bits=>.builtin "int.bit_length" | .maxl=>.builtin "max"
variable (X G) in
def qFW(f:BF):List V->Hp->VK->Prop:=λxs H Q=>∃φ h ws v h',Rl X.K G φ h H/\rvs φ ws xs/\qEe f ws h=.ok (v,h')/\∀φ' H' w,Ext φ φ'->Rl X.K G φ' h' H'->rv φ' v w->Q w H'
def DR(P:Program)(W:World)(h:Heap)(n:Nat)(u:Value)(d:PyData):Prop:=(∃as,Reads h u d as)/\d.depth<=n/\(d.showable=true->d.shown.length<=sizeLine->∃bs,ReadAtMost h d.depth bs/\ReprK P W bs h d.depth u d.shown)
def DRs(P:Program)(W:World)(h:Heap)(n:Nat)(us:List Value)(ds:List PyData):Prop:=(∃as,ReadsAll h us ds as)/\PyData.depthAll ds<=n/\(PyData.showableAll ds=true->(∀t∈PyData.shownAll ds,t.length<=sizeLine)->∃bs,ReadAtMost h (PyData.depthAll ds) bs/\ReprAllK P W bs h (PyData.depthAll ds) us (PyData.shownAll ds))
theorem DR.flat{P:Program}{W:World}{hp:Heap}{n:Nat}{u:Value}{d:PyData}(q:(∃as,Reads hp u d as)/\d.hasDict=false/\d.depth<=0):DR P W hp n u d:=by
 obtain⟨⟨as,q1⟩,q2,q3⟩:=q;exact⟨⟨as,q1⟩,by omega,λhs hz=>ReprK.of_reads q1 hs (λz=>by rw[q2]at z;cases z) hz⟩
theorem DRs.list{P:Program}{W:World}{hp:Heap}{n m:Nat}{p:Addr}{o:Obj}{its:List Value}{ds:List PyData}(q:DRs P W hp n its ds)(ho:hp.get? p=some o)(hc:o.cls=.type "list")(hd:o.data=.seq its.toArray m)(hs:PyData.showableAll ds=true)(hz:(listText (PyData.shownAll ds)).length<=sizeLine):
  ∃bs,ReadAtMost hp (PyData.depthAll ds) bs/\ReprAllK P W bs hp (PyData.depthAll ds) its (PyData.shownAll ds)/\p∉bs:=by
 obtain⟨⟨as,q1⟩,q2,q3⟩:=q;obtain⟨bs,hb,hk⟩:=q3 hs (λt ht=>wS (listText_mem_le ht) hz);exact⟨bs,hb,hk,not_mem_of_deeper (Reads.list ho hc hd (by simpa using q1)) (by simp only[PyData.depth];omega) hb⟩
theorem DRs.tuple{P:Program}{W:World}{hp:Heap}{n m:Nat}{p:Addr}{o:Obj}{its:List Value}{ds:List PyData}(q:DRs P W hp n its ds)(ho:hp.get? p=some o)(hc:o.cls=.type "tuple")(hd:o.data=.seq its.toArray m)(hs:PyData.showableAll ds=true)(hz:(tupleText (PyData.shownAll ds)).length<=sizeLine):
  ∃bs,ReadAtMost hp (PyData.depthAll ds) bs/\ReprAllK P W bs hp (PyData.depthAll ds) its (PyData.shownAll ds)/\p∉bs:=by
 obtain⟨⟨as,q1⟩,q2,q3⟩:=q;obtain⟨bs,hb,hk⟩:=q3 hs (λt ht=>wS (tupleText_mem_le ht) hz);exact⟨bs,hb,hk,not_mem_of_deeper (Reads.tuple ho hc hd (by simpa using q1)) (by simp only[PyData.depth];omega) hb⟩
theorem JV(hc:X.calm=true)(hu:X.A.units+8<cLine)(hgd:X.A.guards=some []):∀f,zG X (fnB f) (qFW X G f):=by
 intro f pins s σ H xs us Q I r ⟨φ,h,ws,v,h',R,rw',e,k⟩;cases f with
 |len=>
  replace e:=jX e;obtain⟨x0,rfl,e⟩:=e;replace e:=qq e;obtain⟨a,rfl,e⟩:=e;split at e
  ·rename_i ys ey;cases e;cases rw' with
   |cons r1 t=>
    cases t;obtain⟨p,rfl,hp⟩:=qL r1;obtain⟨p',zs,hp',hs,rs⟩:=R.its ey;rw[hp]at hp';cases hp';refine _L.call_len_seq pins s σ H _ us Q I r ⟨p,zs,rfl,hs,?_⟩;rw[<-Paired.length rs];exact k φ H _ (.refl _) R rfl
  ·split at e
   ·rename_i kvs ed;cases e;cases rw' with
    |cons r1 t=>
     cases t;obtain⟨p,rfl,hp⟩:=qL r1;obtain⟨p',ks,hp',_,hH,rk⟩:=R.dct ed;rw[hp]at hp';cases hp';cases r with
     |cons r0 rt=>
      cases rt;cases r0;refine _L.d_len I (.inl hH) λt s' I'=>⟨.int (ks.map kk).length,H,I',⟨t,rfl⟩,?_⟩
      rw[wK,rk.len];exact k φ H _ (.refl _) R rfl
   ·cases e
 |sum=>
  replace e:=jX e;obtain⟨x0,rfl,e⟩:=e;replace e:=qq e;obtain⟨a,rfl,e⟩:=e;split at e
  ·rename_i ys ey;split at e
   ·rename_i is ei;cases e;cases rw' with
    |cons r1 t=>
     cases t;obtain⟨p,rfl,hp⟩:=qL r1;obtain⟨p',zs,hp',hs,rs⟩:=R.lst ey;rw[hp]at hp';cases hp';have hz:=zR (Qu ei) rs;subst hz;obtain⟨its,rv',pl,_⟩:=I.list hs;obtain⟨u,rfl,ru⟩:=_L.vals1 r;cases ru;exact P3 (I.ok.hd hc) pl.isList ei rv' λh1 tk t' hk=>⟨.int is.sum,H,I.kept hk,⟨_,rfl⟩,k φ H _ (.refl _) R rfl⟩
   ·cases e
  ·cases e
 |all=>
  replace e:=jX e;obtain⟨x0,rfl,e⟩:=e;replace e:=qq e;obtain⟨a,rfl,e⟩:=e;split at e
  ·rename_i ys ey;split at e
   ·rename_i is ei;cases e;cases rw' with
    |cons r1 t=>
     cases t;obtain⟨p,rfl,hp⟩:=qL r1;obtain⟨p',zs,hp',hs,rs⟩:=R.lst ey;rw[hp]at hp';cases hp';have hm:=Qk ei;subst hm;have hz:=zR (N6 is) rs;subst hz;obtain⟨its,rv',pl,_⟩:=I.list hs;obtain⟨u,rfl,ru⟩:=_L.vals1 r;cases ru;exact N3 (I.ok.hd hc) pl.isList (G1 rv') λh1 tk hk=>⟨.bl (is.all id),H,I.kept hk,rfl,k φ H _ (.refl _) R rfl⟩
   ·cases e
  ·cases e
 |max=>
  replace e:=two_inv e;obtain⟨x0,y0,rfl,e⟩:=e;replace e:=qr e;obtain⟨i,j,rfl,rfl,e⟩:=e;cases e;cases rw' with
  |cons r1 t=>
   cases t with
   |cons r2 t=>
    cases t;cases qD r1;cases qD r2;exact _L.call_max2 hc pins s σ H _ us Q I r ⟨_,_,rfl,k φ H _ (.refl _) R rfl⟩
 |min=>
  replace e:=two_inv e;obtain⟨x0,y0,rfl,e⟩:=e;replace e:=qr e;obtain⟨i,j,rfl,rfl,e⟩:=e;cases e;cases rw' with
  |cons r1 t=>
   cases t with
   |cons r2 t=>
    cases t;cases qD r1;cases qD r2;exact _L.call_min2 hc pins s σ H _ us Q I r ⟨_,_,rfl,k φ H _ (.refl _) R rfl⟩
 |maxl=>
  replace e:=jX e;obtain⟨x0,rfl,e⟩:=e;replace e:=qq e;obtain⟨a,rfl,e⟩:=e;split at e
  ·rename_i ys ey;split at e
   ·rename_i M eM;cases e;obtain⟨is,ei,em⟩:=wI.mp eM;cases rw' with
    |cons r1 t=>
     cases t;obtain⟨p,rfl,hp⟩:=qL r1;obtain⟨p',zs,hp',hs,rs⟩:=R.lst ey;rw[hp]at hp';cases hp';have hm:=zo ei;subst hm;have hz:=zR (Jm is) rs;subst hz;obtain⟨its,rv',pl,_⟩:=I.list hs;obtain⟨u,rfl,ru⟩:=_L.vals1 r;cases ru;exact A2 (I.ok.hd hc) pl.isList (_L.intsAre_of rv') em λh1 tk t' hk=>⟨.int M,H,I.kept hk,⟨_,rfl⟩,k φ H _ (.refl _) R rfl⟩
   ·cases e
  ·cases e
 |bits=>
  replace e:=jX e;obtain⟨x0,rfl,e⟩:=e;split at e
  ·cases e;cases rw' with
   |cons r1 t=>
    cases t;cases qD r1;obtain⟨u,rfl,ru⟩:=_L.vals1 r;obtain⟨t,rfl⟩:=ru;rename_i j;exact call_int_bit_length ⟨.int ((Builtin.Int.intBits j:Nat):Int),H,I.tok _,⟨_,rfl⟩,k φ H _ (.refl _) R rfl⟩
  ·cases e
 |list=>
  replace e:=jX e;obtain⟨x0,rfl,e⟩:=e;replace e:=qq e;obtain⟨a,rfl,e⟩:=e;split at e
  ·rename_i ys ey;cases e;cases rw' with
   |cons r1 t=>
    cases t;obtain⟨p,rfl,hp⟩:=qL r1;obtain⟨p',zs,hp',hs,rs⟩:=R.its ey;rw[hp]at hp';cases hp';exact _L.call_list_of pins s σ H _ us Q I r ⟨p,zs,rfl,hs,λl hl=>k (φ++[l]) _ _ ⟨[l],rfl⟩ (R.newL hl rs) R.lastRef⟩
  ·cases e
 |int=>
  replace e:=jX e;obtain⟨x0,rfl,e⟩:=e;split at e
  ·cases e;cases rw' with
   |cons r1 t=>
    cases t;cases qD r1;exact _L.call_int1 pins s σ H _ us Q I r (.inl ⟨_,rfl,k φ H _ (.refl _) R rfl⟩)
  ·cases e;cases rw' with
   |cons r1 t=>
    cases t;cases zS r1;exact _L.call_int1 pins s σ H _ us Q I r (.inr ⟨_,rfl,k φ H _ (.refl _) R rfl⟩)
  ·cases e
end
open AutoSeq1 (wpAny_loadPart')
open MeetsSeq MeetsSeq2 MeetsSeq3 SeqRoads2
theorem qB0{M:Model}{A:Around}{E:Value->Shared->Prop}{s:Shared}{β:Type}{n:Nat}(f:Nat->β->Sem (ForInStep β))(I:List Nat->β->Shared->Prop)(Q:β->Shared->Prop)
  (l6:∀x rest b s,I (x::rest) b s->wpAny M A (f x b) (λr s'=>match r with | .yield b'=>I rest b' s' | .done b'=>Q b' s') E s)
  (fin:∀b s,I [] b s->Q b s) (b:β) (h:I (List.range' 0 n) b s):wpAny M A (forIn [0:n] b f) Q E s:=by
 rw[Std.Legacy.Range.forIn_eq_forIn_range'];have e:(List.range' 0 ([0:n]:Std.Legacy.Range).size)=List.range' 0 n:=by simp[Std.Legacy.Range.size]
 exact wpAny_forIn_list f I Q l6 fin _ b (by simpa [Std.Legacy.Range.size] using h)
theorem tuple_indexAt(l:Addr)(items:Array Value)(n:Nat)(dd:Option Addr)(sl:Array (Option Value))(x:Value)(e:Value->Bool)(j:Nat)(hj:j<items.size)
  (hit:e items[j]=true) (hno:∀m (hm:m<items.size),m<j->e items[m]=false):
  Meets (Builtin.«tuple.index» ⟨[.ref l,x],[]⟩)
   (λA R s=>s.heap.get? l=some { cls:=.type "tuple",dict:=dd,data:=.seq items n,slots:=sl }/\(∀y,y∈items->EqAt A.in1 s y x (e y))/\R (.ok (.ret (.int j s.toks))) { s with toks:=s.toks+1 }):=
 .of_wp λprog w A R s h=>by
  obtain⟨hp,g,d,tk,os⟩:=s;obtain⟨hl,he,h⟩:=h
  wp_walk using wpAny_loadPart' hl,qB0 _ (λrest b s'=>b.1=none/\s'=⟨hp,g,d,tk,os⟩/\∃i,i<=j/\rest=List.range' i (items.size-i)) _
  case l6=>
   rintro i rest b s' ⟨hb,rfl,i',hi,hr⟩;have hz:items.size-i'≠0:=by omega
   obtain⟨z,hz⟩:∃z,items.size-i'=z+1:=⟨items.size-i' - 1,by omega⟩
   rw[hz,vG]at hr;cases hr;have hlt:i<items.size:=by omega
   have hg:items[i]?=some items[i]:=Array.getElem?_eq_getElem hlt;dsimp only;rw[hg];refine uF (he _ (Array.getElem_mem hlt) prog w _ _ ?_);by_cases hij:i=j
   ·subst hij;rw[hit]
    wp_walk
    exact⟨_,rfl,h⟩
   ·rw[hno i hlt (by omega)]
    wp_walk
    exact⟨rfl,rfl,i+1,by omega,by congr 1;omega⟩
  case fin=>
   rintro⟨b1,b2⟩ s' ⟨hb,rfl,i,hi,hr⟩;have:(List.range' i (items.size-i)).length=0:=by rw[<-hr];rfl
   rw[List.length_range']at this;omega
  case h=>
   refine⟨rfl,rfl,0,vU _,?_⟩;simp
open _L (PW)
theorem jC{r:RV}{b:Bool}{h:AH}(e:asB r=.ok (b,h)):r=.ok (.bl b,h):=by
 unfold asB at e;obtain⟨⟨v,h1⟩,e1,e2⟩:=tK e;dsimp only at e2;split at e2
 ·cases e2;exact e1
 ·cases e2
theorem J7{r:RV}{b:Bool}{h:AH}(e:r=.ok (.bl b,h)):asB r=.ok (b,h):=by
 subst e;rfl
section
variable{X:Cx}{G:List Addr}{F:Nat->List V->AH->RV}{a b c:E}{as:Es}{ea eb ec:Expr}{es:List Expr}{pos:Pos}
theorem Zy{K:PySem.W.Frag}{σ:St}{H:Hp}{Q:Bool->Hp->Prop}(q:tT K G F a σ H Q):tE K G F a σ H (λx H'=>∃k,x=.bl k/\Q k H'):=by
 obtain⟨φ,h,σa,b,h',R,rs,e,k⟩:=q;exact⟨φ,h,σa,.bl b,h',R,rs,jC e,λφ' H' w x' R' r'=>⟨b,zS r',k φ' H' x' R'⟩⟩
theorem qU(h:SE X G F ea a)(he:∀whole,isTrue ea X.env whole=(do let v <- whole;standAt ea.pos;holding [v] (truthy v))):ST X G F ea a:=
 v6 (_L.pt_val h he) λ_ _ _ q=>Zy q
theorem qAu{op:COp}{σc:St}{H:Hp}{Q:VK}(q:tE X.K G F (.cmp op a b) σc H Q):_L.tOp (qEo X G op) (tE X.K G F a) (tE X.K G F b) σc H Q:=by
 obtain⟨φ,h,σ,v,h',R,rs,e,k⟩:=q;unfold ev at e;obtain⟨⟨x,h1⟩,e1,e⟩:=tK e;obtain⟨⟨y,h2⟩,e2,e⟩:=tK e;refine jq R rs e1 e2 λφ2 H2 xc yc x2 R2 r1 r2=>?_;unfold qA1 at e;dsimp only at e;split at e
 ·rename_i t et;cases e;exact⟨φ2,_,x,y,t,R2,r1,r2,et,k φ2 H2 _ x2 R2 rfl⟩
 ·cases e
theorem qEI{op:COp}(hu:X.A.units+8<cLine)(ha:SE X G F ea a)(hb:SE X G F eb b)(hm:behindInMarks (opC op) eb=false):SE X G F (.Compare ea [opC op] [eb] pos) (.cmp op a b):=
 qp (_L.pe_cmpR (jn hu op) ha hb hm) λ_ _ _=>qAu
theorem qDx{op:COp}(hu:X.A.units+8<cLine)(ha:SE X G F ea a)(hb:SE X G F eb b)(hm:behindInMarks (opC op) eb=false):ST X G F (.Compare ea [opC op] [eb] pos) (.cmp op a b):=
 v6 (_L.pt_cmpR (jn hu op) ha hb hm) λ_ _ _ q=>qAu (Zy q)
theorem D0{o1 o2:COp}{σc:St}{H:Hp}{Q:VK}(q:tE X.K G F (.cmp2 o1 o2 a b c) σc H Q):_L.tChain (qEo X G o1) (qEo X G o2) (tE X.K G F a) (tE X.K G F b) (tE X.K G F c) σc H Q:=by
 obtain⟨φ,h,σ,v,h',R,rs,e,k⟩:=q;unfold ev at e;obtain⟨⟨x,h1⟩,e1,e⟩:=tK e;obtain⟨⟨y,h2⟩,e2,e⟩:=tK e;refine jq R rs e1 e2 λφ2 H2 xc yc x2 R2 r1 r2=>?_;dsimp only at e;split at e
 ·rename_i et;refine⟨φ2,_,x,y,true,R2,r1,r2,et,true,rfl,?_⟩;rw[if_pos rfl];obtain⟨⟨z,h3⟩,e3,e⟩:=tK e;refine⟨φ2,_,σ,z,h3,R2,rst.mono x2 rs,e3,λφ3 H3 zc x3 R3 r3=>?_⟩;unfold qA1 at e;dsimp only at e;split at e
  ·rename_i t et;cases e;exact⟨φ3,_,y,z,t,R3,rv.mono x3 r2,r3,et,k φ3 H3 _ (x2.trans x3) R3 rfl⟩
  ·cases e
 ·rename_i et;cases e;refine⟨φ2,_,x,y,false,R2,r1,r2,et,false,rfl,?_⟩;rw[if_neg (by decide)];exact k φ2 H2 _ x2 R2 rfl
 ·cases e
theorem n8{o1 o2:COp}(hu:X.A.units+8<cLine)(ha:SE X G F ea a)(hb:SE X G F eb b)(hc:SE X G F ec c)(hm:lastMarks [opC o1,opC o2] [eb,ec]=false):SE X G F (.Compare ea [opC o1,opC o2] [eb,ec] pos) (.cmp2 o1 o2 a b c):=
 qp (_L.pe_chain (jn hu o1) (jn hu o2) ha hb hc hm) λ_ _ _=>D0
theorem v4{o1 o2:COp}(hu:X.A.units+8<cLine)(ha:SE X G F ea a)(hb:SE X G F eb b)(hc:SE X G F ec c)(hm:lastMarks [opC o1,opC o2] [eb,ec]=false):ST X G F (.Compare ea [opC o1,opC o2] [eb,ec] pos) (.cmp2 o1 o2 a b c):=
 v6 (_L.pt_chain (jn hu o1) (jn hu o2) ha hb hc hm) λ_ _ _ q=>D0 (Zy q)
theorem qCH{σc:St}{H:Hp}{Q:VK}(q:tE X.K G F (.and a b) σc H Q):_L.tAndV (tE X.K G F a) (tE X.K G F b) σc H Q:=by
 obtain⟨φ,h,σ,v,h',R,rs,e,k⟩:=q;unfold ev at e;obtain⟨⟨x,h1⟩,e1,e⟩:=tK e;refine⟨φ,h,σ,.bl x,h1,R,rs,jC e1,λφ1 H1 w x1 R1 r1=>⟨x,zS r1,?_⟩⟩;dsimp only at e;cases x with
 |true=>
  rw[if_pos rfl]at e ⊢;exact⟨φ1,h1,σ,v,h',R1,rst.mono x1 rs,e,λφ2 H2 w2 x2 R2 r2=>k φ2 H2 w2 (x1.trans x2) R2 r2⟩
 |false=>
  rw[if_neg (by decide)]at e ⊢;cases e;exact k φ1 H1 _ x1 R1 rfl
theorem qEK{σc:St}{H:Hp}{Q:VK}(q:tE X.K G F (.or a b) σc H Q):_L.tOrV (tE X.K G F a) (tE X.K G F b) σc H Q:=by
 obtain⟨φ,h,σ,v,h',R,rs,e,k⟩:=q;unfold ev at e;obtain⟨⟨x,h1⟩,e1,e⟩:=tK e;refine⟨φ,h,σ,.bl x,h1,R,rs,jC e1,λφ1 H1 w x1 R1 r1=>⟨x,zS r1,?_⟩⟩;dsimp only at e;cases x with
 |false=>
  rw[if_neg (by decide)]at e ⊢;exact⟨φ1,h1,σ,v,h',R1,rst.mono x1 rs,e,λφ2 H2 w2 x2 R2 r2=>k φ2 H2 w2 (x1.trans x2) R2 r2⟩
 |true=>
  rw[if_pos rfl]at e ⊢;cases e;exact k φ1 H1 _ x1 R1 rfl
theorem qDs{σc:St}{H:Hp}{Q:Bool->Hp->Prop}(q:tT X.K G F (.and a b) σc H Q):_L.tAnd (tT X.K G F a) (tT X.K G F b) σc H Q:=by
 obtain⟨φ,h,σ,t,h',R,rs,e,k⟩:=q;have e:=jC e;unfold ev at e;obtain⟨⟨x,h1⟩,e1,e⟩:=tK e;refine⟨φ,h,σ,x,h1,R,rs,e1,λφ1 H1 x1 R1=>?_⟩;dsimp only at e;cases x with
 |true=>
  rw[if_pos rfl]at e ⊢;exact⟨φ1,h1,σ,t,h',R1,rst.mono x1 rs,J7 e,λφ2 H2 x2 R2=>k φ2 H2 (x1.trans x2) R2⟩
 |false=>
  rw[if_neg (by decide)]at e ⊢;cases e;exact k φ1 H1 x1 R1
theorem qFo{σc:St}{H:Hp}{Q:Bool->Hp->Prop}(q:tT X.K G F (.or a b) σc H Q):_L.tOr (tT X.K G F a) (tT X.K G F b) σc H Q:=by
 obtain⟨φ,h,σ,t,h',R,rs,e,k⟩:=q;have e:=jC e;unfold ev at e;obtain⟨⟨x,h1⟩,e1,e⟩:=tK e;refine⟨φ,h,σ,x,h1,R,rs,e1,λφ1 H1 x1 R1=>?_⟩;dsimp only at e;cases x with
 |false=>
  rw[if_neg (by decide)]at e ⊢;exact⟨φ1,h1,σ,t,h',R1,rst.mono x1 rs,J7 e,λφ2 H2 x2 R2=>k φ2 H2 (x1.trans x2) R2⟩
 |true=>
  rw[if_pos rfl]at e ⊢;cases e;exact k φ1 H1 x1 R1
variable (X G F) in
abbrev SW(e:Expr)(a:E):Prop:=PW X e (tT X.K G F a)
theorem qDk{e:Expr}{t t':TT}(h:PW X e t)(w:∀σ H Q,t' σ H Q->t σ H Q):PW X e t':=λwh pins s σ H Q I q=>h wh pins s σ H Q I (w σ H Q q)
theorem qC9{rest:List Expr}(ha:SE X G F ea a)(hb:SE X G F (.BoolOp .And (eb::rest) pos) b):SE X G F (.BoolOp .And (ea::eb::rest) pos) (.and a b):=qp (_L.pe_and ha hb) λ_ _ _=>qCH
theorem qFB{rest:List Expr}(ha:SE X G F ea a)(hb:SE X G F (.BoolOp .Or (eb::rest) pos) b):SE X G F (.BoolOp .Or (ea::eb::rest) pos) (.or a b):=qp (_L.pe_or ha hb) λ_ _ _=>qEK
theorem qDY{rest:List Expr}(ha:ST X G F ea a)(hb:SW X G F (.BoolOp .And (eb::rest) pos) b):SW X G F (.BoolOp .And (ea::eb::rest) pos) (.and a b):=qDk (_L.pw_and ha hb) λ_ _ _=>qDs
theorem qFb{rest:List Expr}(ha:ST X G F ea a)(hb:SW X G F (.BoolOp .Or (eb::rest) pos) b):SW X G F (.BoolOp .Or (ea::eb::rest) pos) (.or a b):=qDk (_L.pw_or ha hb) λ_ _ _=>qFo
theorem qEU(ha:SE X G F ea a):SE X G F (.UnaryOp .Not ea pos) (.not a):=by
 refine qp (_L.pe_not ha) λσc H Q q=>?_;obtain⟨φ,h,σ,v,h',R,rs,e,k⟩:=q;unfold ev at e;obtain⟨⟨x,h1⟩,e1,e⟩:=tK e;cases e;exact⟨φ,h,σ,.bl x,_,R,rs,jC e1,λφ1 H1 w x1 R1 r1=>⟨x,zS r1,k φ1 H1 _ x1 R1 rfl⟩⟩
theorem qET(ha:ST X G F ea a):ST X G F (.UnaryOp .Not ea pos) (.not a):=by
 refine v6 (_L.pt_not ha) λσc H Q q=>?_;obtain⟨φ,h,σ,t,h',R,rs,e,k⟩:=q;have e:=jC e;unfold ev at e;obtain⟨⟨x,h1⟩,e1,e⟩:=tK e;cases e;exact⟨φ,h,σ,x,_,R,rs,e1,λφ1 H1 x1 R1=>k φ1 H1 x1 R1⟩
theorem qDd(hc:ST X G F ec c)(ha:SE X G F ea a)(hb:SE X G F eb b):SE X G F (.IfExp ec ea eb pos) (.ite c a b):=by
 refine qp (_L.pe_ifExp hc ha hb) λσc H Q q=>?_;obtain⟨φ,h,σ,v,h',R,rs,e,k⟩:=q;unfold ev at e;obtain⟨⟨x,h1⟩,e1,e⟩:=tK e;refine⟨φ,h,σ,x,h1,R,rs,e1,λφ1 H1 x1 R1=>?_⟩;dsimp only at e;cases x with
 |true=>
  rw[if_pos rfl]at e ⊢;exact⟨φ1,h1,σ,v,h',R1,rst.mono x1 rs,e,λφ2 H2 w2 x2 R2 r2=>k φ2 H2 w2 (x1.trans x2) R2 r2⟩
 |false=>
  rw[if_neg (by decide)]at e ⊢;exact⟨φ1,h1,σ,v,h',R1,rst.mono x1 rs,e,λφ2 H2 w2 x2 R2 r2=>k φ2 H2 w2 (x1.trans x2) R2 r2⟩
theorem qD8(hc:ST X G F ec c)(ha:ST X G F ea a)(hb:ST X G F eb b):ST X G F (.IfExp ec ea eb pos) (.ite c a b):=by
 intro pins s σc H Q I q;obtain⟨φ,h,σ,t,h',R,rs,e,k⟩:=q;have e:=jC e;unfold ev at e;obtain⟨⟨x,h1⟩,e1,e⟩:=tK e;refine isTrue_IfExp (_L.thn (hc pins s σc H (λz H1=>(z=true->tT X.K G F a σc H1 Q)/\(z=false->tT X.K G F b σc H1 Q)) I ⟨φ,h,σ,x,h1,R,rs,e1,λφ1 H1 x1 R1=>?_⟩) λz s1 ⟨H1,I1,q1,q2⟩=>?_)
 ·dsimp only at e;cases x with
  |true=>
   rw[if_pos rfl]at e;exact⟨λ_=>⟨φ1,h1,σ,t,h',R1,rst.mono x1 rs,J7 e,λφ2 H2 x2 R2=>k φ2 H2 (x1.trans x2) R2⟩,λz=>nomatch z⟩
  |false=>
   rw[if_neg (by decide)]at e;exact⟨(λz=>nomatch z),λ_=>⟨φ1,h1,σ,t,h',R1,rst.mono x1 rs,J7 e,λφ2 H2 x2 R2=>k φ2 H2 (x1.trans x2) R2⟩⟩
 ·cases z with
  |true=>exact ha pins s1 σc H1 Q I1 (q1 rfl)
  |false=>exact hb pins s1 σc H1 Q I1 (q2 rfl)
noncomputable def qY:Expr->Bool
 | .Starred ..=>false
 |_=>true
theorem qI{e:Expr}{env:Env}(h:qY e=true):starEach (e::es) env=(false,eval e env)::starEach es env:=by
 cases e<;>first|rfl|cases h
theorem jI{env:Env}:∀{es:List Expr},es.all qY=true->(backTo pos (starEach es env)).any (·.1)=false
 | [],_=>rfl
 |e::es,h=>by
  simp only[List.all_cons,wE]at h;rw[qI h.1];show (false||(backTo pos (starEach es env)).any (·.1))=false;rw[jI h.2];rfl
theorem U7:SA X G F [] .nil:=by
 refine qDo _L.pa_nil λσc H Q q=>?_;obtain⟨φ,h,σ,v,h',R,rs,e,k⟩:=q;unfold evs at e;cases e;exact k φ H [] (.refl _) R .nil
theorem A3(hn:qY ea=true)(ha:SE X G F ea a)(hr:SA X G F es as):SA X G F (ea::es) (.cons a as):=by
 refine qDo (_L.pa_cons ha hr (qI hn)) λσc H Q q=>?_;obtain⟨φ,h,σ,v,h',R,rs,e,k⟩:=q;unfold evs at e;obtain⟨⟨x,h1⟩,e1,e⟩:=tK e;obtain⟨⟨xs,h2⟩,e2,e⟩:=tK e;cases e;exact⟨φ,h,σ,x,h1,R,rs,e1,λφ1 H1 w x1 R1 r1=>⟨φ1,h1,σ,xs,_,R1,rst.mono x1 rs,e2,λφ2 H2 ws x2 R2 r2=>k φ2 H2 _ (x1.trans x2) R2 (.cons (rv.mono x2 r1) r2)⟩⟩
theorem qD7(h:SA X G F es as):SE X G F (.List es pos) (.lst as):=by
 refine qp (_L.pe_lst h) λσc H Q q=>?_;obtain⟨φ,h,σ,v,h',R,rs,e,k⟩:=q;unfold ev at e;obtain⟨⟨xs,h1⟩,e1,e⟩:=tK e;refine⟨φ,h,σ,xs,h1,R,rs,e1,λφ1 H1 ws x1 R1 r1=>?_⟩;dsimp only at e;split at e
 ·rename_i hl;cases e;refine⟨by rw[<-Paired.length r1];exact wS hl ZN,λp hp=>k (φ1++[p]) _ _ (x1.trans ⟨[p],rfl⟩) (R1.newL hp r1) R1.lastRef⟩
 ·cases e
theorem i5:SE X G F (.Dict [] [] pos) .dnew:=by
 intro pins s σc H Q I q;obtain⟨φ,h,σ,v,h',R,rs,e,k⟩:=q;unfold ev at e;cases e;have hbig:sysModules<s.heap.objs.size:=wz (by decide) (I.mod.glob.keeps I.bk).lt;have hn:=I.hok.fresh (wM s.heap.objs.size);exact wpAny_Dict_empty ⟨.ref s.heap.objs.size,_,I.laid (a:=s.heap.objs.size) (o:=.dK []) (t':=s.toks) (λ_ _ q=>Heap.get?_push_of_some _ q) (wM _)
  ⟨vU _,beq_eq_false_iff_ne.mpr (Ne.symm (wj hbig)),[],.nil,Heap.DictOf.new s.heap⟩,rfl,
  k (φ++[s.heap.objs.size]) _ _ ⟨[s.heap.objs.size],rfl⟩ (R.new hn (o:=.ob (.dct [])) ⟨[],qC,.nil⟩) R.lastRef⟩
theorem qAn {x1}(h:SA X G F es as):SE X G F (.Tuple es x1 pos) (.tup as):=by
 refine qp (_L.pe_tup h) λσc H Q q=>?_;obtain⟨φ,h,σ,v,h',R,rs,e,k⟩:=q;unfold ev at e;obtain⟨⟨xs,h1⟩,e1,e⟩:=tK e;refine⟨φ,h,σ,xs,h1,R,rs,e1,λφ1 H1 ws x1 R1 r1=>?_⟩;dsimp only at e;split at e
 ·rename_i hl;cases e;refine⟨by rw[<-Paired.length r1];exact wS hl ZN,λp hp=>k (φ1++[p]) _ _ (x1.trans ⟨[p],rfl⟩) (R1.newT hp r1) R1.lastRef⟩
 ·cases e
variable (G F) in
noncomputable def spF(K:PySem.W.Frag)(f:Nat):_L.Sp:=λvs H Q _=>∃φ h ws v h',Rl K G φ h H/\rvs φ ws vs/\F f ws h=.ok (v,h')/\∀φ' H' w,Ext φ φ'->Rl K G φ' h' H'->rv φ' v w->Q w H'
variable (X G F) in
structure FnS(f:Nat)(x:Str):Prop where
 ex:∃k fa fd ps,_L.FnOk X.prog X.w X.K X.mg X.base _L.CX0 k fa fd ps (spF G F X.K f)/\_L.Room k X.A/\X.mg x=some (.ref fa)/\PySem.W.keepIn X.K (.ref fa)=true/\_L.Binds X.K fd ps []/\_L.Room k X.A.in1
theorem Q4{f:Nat}{σc:St}{H:Hp}{Q:VK}(q:tE X.K G F (.call f as) σc H Q):_L.tCall (spF G F X.K f) [] _L.E0 (tL X.K G F as) σc H Q:=by
 obtain⟨φ,h,σ,v,h',R,rs,e,k⟩:=q;unfold ev at e;obtain⟨⟨xs,h1⟩,e1,e⟩:=tK e;refine⟨φ,h,σ,xs,h1,R,rs,e1,λφ1 H1 ws x1 R1 r1=>?_⟩;have e:F f xs h1=.ok (v,h'):=by
  have e:(F f xs h1).nx=.ok (v,h'):=e;revert e;generalize F f xs h1=r;cases r<;>intro e<;>first|exact e|cases e
 refine⟨φ1,h1,xs,v,h',R1,by rw[wd];exact r1,e,λφ2 H2 w x2 R2 r2=>k φ2 H2 w (x1.trans x2) R2 r2⟩
theorem qBZ{f:Nat}{x:Str}{p:Pos}(hf:FnS X G F f x)(hg:_L.Gl X x)(hd:(x==("__debug__":Str))=false)(hn:qY ea=true)(hs:es.all qY=true)(ha:SA X G F (ea::es) as):SE X G F (.Call (.Name x p) (ea::es) [] pos) (.call f as):=by
 obtain⟨k,fa,fd,ps,h1,h2,h3,h4,h5,_⟩:=hf.ex;exact qp (_L.pe_call h1 h2 hg h3 h4 h5 .nil _L.pass0 ha hd (qI hn) (jI hs)) λ_ _ _=>Q4
theorem qAD{f:Nat}{x:Str}{p:Pos}(hf:FnS X G F f x)(hg:_L.Gl X x)(hd:(x==("__debug__":Str))=false):SE X G F (.Call (.Name x p) [] [] pos) (.call f .nil):=by
 obtain⟨k,fa,fd,ps,h1,h2,h3,h4,h5,_⟩:=hf.ex;refine qp (_L.pe_call0 h1 h2 hg h3 h4 h5 .nil _L.pass0 hd) λσc H Q q=>?_;obtain⟨φ,h,σ,vs,h',R,rs,e,k⟩:=Q4 q;unfold evs at e;cases e;exact k φ H [] (.refl _) R .nil
theorem qAd{f:BF}{σc:St}{H:Hp}{Q:VK}(q:tE X.K G F (.blt f as) σc H Q):_L.tCB (qFW X G f) (tL X.K G F as) σc H Q:=by
 obtain⟨φ,h,σ,v,h',R,rs,e,k⟩:=q;unfold ev at e;obtain⟨⟨xs,h1⟩,e1,e⟩:=tK e;exact⟨φ,h,σ,xs,h1,R,rs,e1,λφ1 H1 ws x1 R1 r1=>⟨φ1,h1,xs,v,h',R1,r1,e,λφ2 H2 w x2 R2 r2=>k φ2 H2 w (x1.trans x2) R2 r2⟩⟩
theorem qD2{f:BF}{x:Str}{p:Pos}(hc:X.calm=true)(hu:X.A.units+8<cLine)(hgd:X.A.guards=some [])(hg:_L.Gl X x)(hm:X.mg x=none)(hv:bootBuiltins x=some (fnB f))(hn:qY ea=true)(hs:es.all qY=true)(ha:SA X G F (ea::es) as)
  (h1:x≠"__name__") (h2:(x==("__debug__":Str))=false):SE X G F (.Call (.Name x p) (ea::es) [] pos) (.blt f as):=by
 have rule:=JV (G:=G) hc hu hgd f;cases f
 all_goals first
  |exact qp (_L.pe_callB rule hg hm hv ha h1 h2 (qI hn) (jI hs)) λ_ _ _=>qAd
  |exact qp (_L.pe_callTy rule hg hm hv ha h1 h2 (qI hn) (jI hs)) λ_ _ _=>qAd
theorem qB9{apos cpos:Pos}(hc:X.calm=true)(hu:X.A.units+8<cLine)(hgd:X.A.guards=some [])(hbase:attributeBase ea "bit_length" X.env (eval ea X.env)=eval ea X.env)(hline:(apos.endLine==cpos.line)=true)(ha:SE X G F ea a):
  SE X G F (.Call (.Attribute ea "bit_length" apos) [] [] cpos) (.blt .bits (.cons a .nil)):=by
 have rule:_L.MtR X "int.bit_length" (λx xs H Q=>∃i,x=.int i/\xs=[]/\qFW X G .bits [.int i] H Q):=λpins s σ H x xs v us Q I rx rs q=>by
  obtain⟨i,rfl,rfl,q⟩:=q;cases rs;exact JV (G:=G) hc hu hgd .bits pins s σ H [.int i] [v] Q I (.cons rx .nil) q
 refine qp (_L.pe_bm0 PySem.F.plainAttrs_int PyProof.Rows.slot_int_bit_length PyProof.Rows.type_int_bit_length rule ha hbase hline) λσc H Q q=>?_;obtain⟨φ,h,σ,v,h',R,rs,e,k⟩:=q;unfold ev at e;obtain⟨⟨xs,h1⟩,e1,e2⟩:=tK e;unfold evs evs at e1;obtain⟨⟨x,h2⟩,e3,e4⟩:=tK e1;cases e4;replace e2:qEe .bits [x] h1=.ok (v,h'):=e2;cases x with
 |int i=>exact⟨φ,h,σ,_,_,R,rs,e3,λφ1 H1 w x1 R1 r1=>by
   cases qD r1;exact⟨rfl,i,rfl,rfl,φ1,_,[.int i],v,h',R1,.cons rfl .nil,e2,λφ2 H2 w x2 R2 r2=>k φ2 H2 w (x1.trans x2) R2 r2⟩⟩
 |_=>cases e2
noncomputable def JN(t:String):Bool:=t=="int"||t=="bool"||t=="list"||t=="tuple"||t=="str"||t=="dict"
theorem Qe(K:PySem.W.Frag):∀{t c:String},(t="NoneType"\/t="bool"\/t="int"\/t="str"\/t="list"\/t="tuple"\/t="dict")->JN c=true->PySem.W.kitOne K (.type t) (.type c)=some (jY t c):=by
 intro t c ht hc;have hc':c="int"\/c="bool"\/c="list"\/c="tuple"\/c="str"\/c="dict":=by
  simp only[JN,vf,beq_iff_eq]at hc;rcases hc with((((h|h)|h)|h)|h)|h<;>simp[h]
 rcases ht with rfl|rfl|rfl|rfl|rfl|rfl|rfl<;>rcases hc' with rfl|rfl|rfl|rfl|rfl|rfl<;>kernel_rfl
variable (X G) in
def qHI(c:String):List V->Hp->VK->Prop:=λxs H Q=>∃φ h xa x t,xs=[x,.ty c]/\Rl X.K G φ h H/\rv φ xa x/\zj h xa=some t/\Q (.bl (jY t c)) H
theorem T8{c:String}(hc:JN c=true):zG X (.builtin "isinstance") (qHI X G c):=by
 intro pins s σ H xs us Q I r ⟨φ,h,xa,x,t,e,R,rx,ht,q⟩;subst e;obtain⟨u,u2,rfl,r1,r2⟩:=_L.vals2 r;cases (show u2=Value.type c from r2);have fin:∀tk,EP X pins σ Q (.bool (jY t c)) { s with toks:=tk }:=λtk=>⟨.bl (jY t c),H,I.tok tk,rfl,q⟩
 cases xa with
 |non=>cases zM rx;cases r1;cases ht;exact PySem.W.kia_one PySem.W.kitx_none I.kIn True.intro (Qe _ (by simp) hc) (λz=>nomatch z) fin
 |bl i=>cases zS rx;cases r1;cases ht;exact PySem.W.kia_one PySem.W.kitx_bool I.kIn True.intro (Qe _ (by simp) hc) (λz=>nomatch z) fin
 |int i=>cases qD rx;obtain⟨t',rfl⟩:=r1;cases ht;exact PySem.W.kia_one PySem.W.kitx_int I.kIn True.intro (Qe _ (by simp) hc) (λz=>nomatch z) fin
 |str i=>cases zd rx;obtain⟨t',rfl⟩:=r1;cases ht;exact PySem.W.kia_one PySem.W.kitx_str I.kIn True.intro (Qe _ (by simp) hc) (λz=>nomatch z) fin
 |ref i=>
  obtain⟨p,rfl,hp⟩:=qL rx;cases r1;cases ey:h[i]? with
  |none=>rw[show zj h (.ref i)=none by simp only[zj,ey]]at ht;cases ht
  |some o=>
   cases o with
   |lst fz ys=>
    rw[show zj h (.ref i)=some "list" by simp only[zj,ey]]at ht;cases ht;obtain⟨p',zs,hp',hs,rs⟩:=R.lst (i:=i) (xs:=ys) (by unfold qO;rw[ey]);rw[hp]at hp';cases hp';obtain⟨its,_,pl,_⟩:=I.list hs;obtain⟨o,ho,hcl,_⟩:=pl.isList;exact PySem.W.kia_one PySem.W.kitx_list I.kIn ⟨o,ho,hcl⟩ (Qe _ (by simp) hc) (λz=>nomatch z) fin
   |tup ys=>
    rw[show zj h (.ref i)=some "tuple" by simp only[zj,ey]]at ht;cases ht;obtain⟨p',zs,hp',hs,rs⟩:=R.tup (i:=i) (xs:=ys) (by unfold qX;rw[ey]);rw[hp]at hp';cases hp';obtain⟨its,_,pl,_⟩:=I.tuple hs;obtain⟨o,ho,hcl,_⟩:=pl;exact PySem.W.kia_one PySem.W.kitx_tuple I.kIn ⟨o,ho,hcl⟩ (Qe _ (by simp) hc) (λz=>nomatch z) fin
   |ob ks=>
    cases ks with
    |exn c=>rw[show zj h (.ref i)=none by simp only[zj,ey]]at ht;cases ht
    |fdc c=>rw[show zj h (.ref i)=none by simp only[zj,ey]]at ht;cases ht
    |dct kvs=>
     rw[show zj h (.ref i)=some "dict" by simp only[zj,ey]]at ht;cases ht;obtain⟨p',hp',ks2,hs,_⟩:=R.at ey;rw[hp]at hp';cases hp';obtain⟨_,_,vs,_,o,es,ep,h1,h2,_⟩:=(show _L.ObjOk X.prog X.w H s.heap p (.dK (ks2.map kk)) from I.hok p _ hs)
     exact PySem.W.kia_one PySem.W.kitx_dict I.kIn ⟨o,h1,h2.1⟩ (Qe _ (by simp) hc) (λz=>nomatch z) fin
 |_=>cases ht
theorem qDn{c:String}{xc:Str}{p pc:Pos}(hc:JN c=true)(hg:_L.Gl X "isinstance")(hm:X.mg "isinstance"=none)(hgc:_L.Gl X xc)(hmc:X.mg xc=none)(hvc:bootBuiltins xc=some (.type c))(hn1:xc≠"__name__")(hn2:(xc==("__debug__":Str))=false)
  (hn:qY ea=true) (ha:SE X G F ea a):SE X G F (.Call (.Name "isinstance" p) [ea,.Name xc pc] [] pos) (.isi a [c]):=by
 refine qp (_L.pe_callB (T8 (G:=G) hc) hg hm PyProof.Rows.boot_isinstance (_L.pa_cons ha (_L.pa_cons (_L.pe_bltn (v:=.ty c) hgc hmc hvc rfl hn1 hn2) _L.pa_nil rfl) (qI hn)) (by decide) (by decide) (qI hn) rfl) λσc H Q q=>?_;obtain⟨φ,h,σ,v,h',R,rs,e,k⟩:=q;unfold ev at e;obtain⟨⟨x,h1⟩,e1,e⟩:=tK e;refine⟨φ,h,σ,x,h1,R,rs,e1,λφ1 H1 w x1 R1 r1=>?_⟩;dsimp only at e;split at e
 ·rename_i t et;cases e;refine⟨φ1,_,x,w,t,rfl,R1,r1,et,?_⟩;have:=k φ1 H1 (.bl ([c].any (jY t))) x1 R1 rfl;simpa using this
 ·cases e
noncomputable def jp:Expr->Bool
 | .Slice ..=>false
 |_=>true
theorem ZU{e:Expr}(h:jp e=true):_L.PlainIx e:=by
 intro o i;cases e<;>first|rfl|cases h
theorem qFQ(hu:X.A.units+8<cLine):_L.IxR X (λx y H Q=>∃a v,x=.ref a/\_L.DGet H a y (some v)/\Q v H):=by
 intro value slice pins s σ H x y v u Q I rx ry ⟨a,z,ex,g,q⟩ hs;subst ex;cases rx;have hT:=_L.dict_typeIs I g;unfold subscriptTail;refine uF ?_;rw[getitemInPython_of_ne hT.not_modules];refine uF (wpAny_specialOf hT PySem.F.slot_dict_getitem.lookup ?_);have fin:wpAny (model X.prog X.w) X.A (subscripted slice false (.ref a) u) (λr s₃=>wpAny (model X.prog X.w) X.A (letTemporaryGo value (.ref a) r >>=λ_=>pure r) (EP X pins σ Q) X.xe s₃) X.xe s:=by
  rw[hs];exact wpAny_operating (_L.thn (_L.d_getItem (by omega) I g ry (Q:=EP X pins σ Q) λw' s3 I3 rw'=>⟨z,H,I3,rw',q⟩) λr s₃ h₃=>uF (wpAny_letTemporaryGo (uG h₃)))
 first
  |exact uG (uF fin)
  |exact uF (uG (uF fin))
  |exact uF fin
theorem qCQ(kvs:List (Int×V))(i:Int):_L.valV (kvs.map kk) (Sum.inl i)=QI kvs i:=by
 unfold QI
 induction kvs with
 |nil=>rfl
 |cons p r ih=>
  rw[List.map_cons];by_cases h:p.1=i
  ·rw[_L.valV_pos (show (kk p).1=Sum.inl i by unfold kk;rw[h]),List.find?_cons,uI h];rfl
  ·rw[_L.valV_neg (λz=>h (Sum.inl.inj z)),ih,List.find?_cons,uH h]
theorem qD0(hb':jp eb=true)(ha:SE X G F ea a)(hb:SE X G F eb b):SE X G F (.Subscript ea eb pos) (.idx a b):=by
 refine qp (_L.pe_ix (_L.ix_list.or _L.ix_tup) ha hb (ZU hb')) λσc H Q q=>?_;obtain⟨φ,h,σ,v,h',R,rs,e,k⟩:=q;unfold ev at e;obtain⟨⟨x,h1⟩,e1,e⟩:=tK e;obtain⟨⟨y,h2⟩,e2,e⟩:=tK e;refine jq R rs e1 e2 λφ2 H2 xc yc x2 R2 r1 r2=>?_;cases x with
 |ref p=>
  cases y with
  |int i=>
   dsimp only at e;split at e
   ·rename_i xs ex;split at e
    ·rename_i w ew;cases e;obtain⟨p',zs,hp',hs,rs'⟩:=R2.its ex;obtain⟨q,rfl,hq⟩:=qL r1;rw[hp']at hq;cases hq;cases qD r2;obtain⟨j,ej,ew⟩:=wI.mp ew;obtain⟨w',hw',rw'⟩:=qT rs' ew;have hat:_L.atI zs i=some w':=by
      unfold _L.atI;rw[<-Paired.length rs'];exact wI.mpr ⟨j,ej,hw'⟩
     rcases hs with hs|hs
     ·exact .inl ⟨_,zs,i,w',rfl,rfl,hs,hat,k φ2 H2 w' x2 R2 rw'⟩
     ·exact .inr ⟨_,zs,i,w',rfl,rfl,hs,hat,k φ2 H2 w' x2 R2 rw'⟩
    ·cases e
   ·cases e
  |_=>cases e
 |_=>cases e
theorem qEA(hu:X.A.units+8<cLine)(hb':jp eb=true)(ha:SE X G F ea a)(hb:SE X G F eb b):SE X G F (.Subscript ea eb pos) (.dix a b):=by
 refine qp (_L.pe_ix (qFQ hu) ha hb (ZU hb')) λσc H Q q=>?_;obtain⟨φ,h,σ,v,h',R,rs,e,k⟩:=q;unfold ev at e;obtain⟨⟨x,h1⟩,e1,e3⟩:=tK e;clear e;obtain⟨⟨y,h2⟩,e2,e4⟩:=tK e3;clear e3;obtain⟨p,ep,e⟩:=qq e4;clear e4;subst ep;refine jq R rs e1 e2 λφ2 H2 xc yc x2 R2 r1 r2=>?_;cases y with
 |int i=>
  dsimp only at e;split at e
  ·rename_i kvs ed;split at e
   ·rename_i w ew;cases e;obtain⟨a',ks2,ea',hH,rk⟩:=R2.rd ed;obtain⟨w',ew',rw'⟩:=rk.get ew;obtain⟨q,rfl,hq⟩:=qL r1;rw[ea']at hq;cases hq;cases qD r2;refine⟨_,_,rfl,?_,k φ2 H2 _ x2 R2 rw'⟩;exact .inl ⟨ks2.map kk,Sum.inl i,hH,rfl,by rw[qCQ,ew']⟩
   ·cases e
  ·cases e
 |_=>cases e
theorem ZW{φ:List Addr}{xs ys:List V}(r:rvs φ xs ys)(lo hi:Option Int):rvs φ (_L.cutV xs lo hi) (_L.cutV ys lo hi):=by
 unfold _L.cutV;rw[Paired.length r];exact zw _ (Qj _ r)
variable (X G F) in
def SO(o:Option Expr)(as:Es):Prop:=_L.PO X o λσc H Q=>∃φ h σ is h',Rl X.K G φ h H/\rst φ σ σc/\(∃vs,evs F as σ h=.ok (vs,h')/\zy vs=some is)/\∀φ' H',Ext φ φ'->Rl X.K G φ' h' H'->Q is.head? H'
theorem qBs:SO X G F none .nil:=by
 intro pins s σc H Q I q;obtain⟨φ,h,σ,is,h',R,rs,⟨vs,e,ei⟩,k⟩:=q;unfold evs at e;cases e;cases ei;exact _L.po_none pins s σc H Q I (k φ H (.refl _) R)
theorem qCB(ha:SE X G F ea a):SO X G F (some ea) (.cons a .nil):=by
 intro pins s σc H Q I q;obtain⟨φ,h,σ,is,h',R,rs,⟨vs,e,ei⟩,k⟩:=q;unfold evs at e;obtain⟨⟨x,h1⟩,e1,e⟩:=tK e;unfold evs at e;cases e;refine _L.po_some ha pins s σc H Q I ⟨φ,h,σ,x,_,R,rs,e1,λφ1 H1 w x1 R1 r1=>?_⟩;have hm:=zo ei;cases is with
 |nil=>cases hm
 |cons i r=>
  simp only[List.map_cons,List.cons.injEq]at hm;obtain⟨rfl,_⟩:=hm;cases qD r1;exact⟨i,rfl,k φ1 H1 x1 R1⟩
theorem qC1{lo hi:Option Expr}{al ah:Es}{p2:Pos}(ha:SE X G F ea a)(hl:SO X G F lo al)(hh:SO X G F hi ah):SE X G F (.Subscript ea (.Slice lo hi none p2) pos) (.sl a al ah):=by
 refine qp (_L.pe_slice (_L.SlR.or _L.sl_list _L.sl_tup) ha hl hh) λσc H Q q=>?_;obtain⟨φ,h,σ,v,h',R,rs,e,k⟩:=q;unfold ev at e;obtain⟨⟨x,h1⟩,e1,e⟩:=tK e;obtain⟨⟨l,h2⟩,e2,e⟩:=tK e;obtain⟨⟨u,h3⟩,e3,e⟩:=tK e;cases x with
 |ref p=>
  cases eil:zy l with
  |none=>dsimp only at e;rw[eil]at e;cases e
  |some il=>
   cases eiu:zy u with
   |none=>dsimp only at e;rw[eil,eiu]at e;cases e
   |some iu=>
    dsimp only at e;rw[eil,eiu]at e;dsimp only at e;split at e
    ·rename_i xs ex;cases e;refine⟨φ,h,σ,_,h1,R,rs,e1,λφ1 H1 w x1 R1 r1=>?_⟩;refine⟨φ1,h1,σ,il,h2,R1,rst.mono x1 rs,⟨l,e2,eil⟩,λφ2 H2 x2 R2=>?_⟩;refine⟨φ2,h2,σ,iu,h3,R2,rst.mono (x1.trans x2) rs,⟨u,e3,eiu⟩,λφ3 H3 x3 R3=>?_⟩;obtain⟨p',zs,hp',hs,rs'⟩:=R3.lst ex;obtain⟨q,rfl,hq⟩:=qL (rv.mono (x2.trans x3) r1);rw[hp']at hq;cases hq;exact .inl ⟨_,zs,rfl,hs,λm hm=>k (φ3++[m]) _ _ ((x1.trans (x2.trans x3)).trans ⟨[m],rfl⟩) (R3.newL hm (ZW rs' _ _)) R3.lastRef⟩
    ·split at e
     ·rename_i xs ex;split at e
      ·cases e
      ·rename_i hw;cases e;refine⟨φ,h,σ,_,h1,R,rs,e1,λφ1 H1 w x1 R1 r1=>?_⟩;refine⟨φ1,h1,σ,il,h2,R1,rst.mono x1 rs,⟨l,e2,eil⟩,λφ2 H2 x2 R2=>?_⟩;refine⟨φ2,h2,σ,iu,h3,R2,rst.mono (x1.trans x2) rs,⟨u,e3,eiu⟩,λφ3 H3 x3 R3=>?_⟩;obtain⟨p',zs,hp',hs,rs'⟩:=R3.tup ex;obtain⟨q,rfl,hq⟩:=qL (rv.mono (x2.trans x3) r1);rw[hp']at hq;cases hq;exact .inr ⟨_,zs,rfl,hs,by rw[<-Paired.length rs'];exact hw,λm hm=>k (φ3++[m]) _ _ ((x1.trans (x2.trans x3)).trans ⟨[m],rfl⟩) (R3.newT hm (ZW rs' _ _)) R3.lastRef⟩
     ·cases e
 |_=>cases e
theorem qDc{apos cpos:Pos}(hbase:attributeBase ea "append" X.env (eval ea X.env)=eval ea X.env)(hline:(apos.endLine==cpos.line)=true)(hn:qY eb=true)(ha:SE X G F ea a)(hb:SE X G F eb b):
  SE X G F (.Call (.Attribute ea "append" apos) [eb] [] cpos) (.app a b):=by
 refine qp (_L.pe_bm PySem.F.plainAttrs_list PySem.F.slot_list_append PySem.F.type_list_append _L.mt_append ha (_L.pa_cons hb _L.pa_nil (qI hn)) hbase (by rw[qI hn];rfl) hline (qI hn) rfl) λσc H Q q=>?_;obtain⟨φ,h,σ,v,h',R,rs,e,k⟩:=q;unfold ev at e;obtain⟨⟨x,h1⟩,e1,e⟩:=tK e;dsimp only at e;split at e
 ·rename_i p;split at e
  ·rename_i ys ey;obtain⟨⟨y,h2⟩,e2,e⟩:=tK e;dsimp only at e;split at e
   ·rename_i xs ex;split at e
    ·rename_i hl;cases e;refine⟨φ,h,σ,_,h1,R,rs,e1,λφ1 H1 w x1 R1 r1=>?_⟩;obtain⟨p1,zs1,hp1,hs1,_⟩:=R1.lst ey;obtain⟨q,rfl,hq⟩:=qL r1;rw[hp1]at hq;cases hq;refine⟨.inl ⟨rfl,_,hs1⟩,φ1,h1,σ,y,h2,R1,rst.mono x1 rs,e2,λφ2 H2 yc x2 R2 r2=>?_⟩;obtain⟨q1,p2,zs2,hp2,hH2,rs2⟩:=R2.mut ex;have:=x2.get hp1;rw[hp2]at this;cases this;refine⟨_,zs2,yc,rfl,rfl,hH2,?_,k φ2 _ _ (x1.trans x2) (R2.set q1 hp2 (qV rs2 (.cons r2 .nil))) trivial⟩;rw[<-Paired.length rs2];exact wz hl qAQ
    ·cases e
   ·cases e
  ·cases e
 ·cases e
theorem Rl.same{K:PySem.W.Frag}{G φ:List Addr}{h:AH}{H H':Hp}(R:Rl K G φ h H)(s:QR H H'):Rl K G φ h H':=⟨R.len,R.glob,λi o a e1 e2=>(R.obj i o a e1 e2).keep (.refl _) s,R.inj⟩
section
open _L
def qA7(K:PySem.W.Frag):V->List V->Hp->VK->Prop:=λx vs H Q=>∃l xs y,∃j:Nat,∃hj:j<xs.length,x=.ref l/\vs=[y]/\SqL K H l xs/\flatV y=true/\xs.all flatV=true/\eqV (xs[j]) y=true/\(∀m (hm:m<j),eqV (xs[m]'(wz hm hj)) y=false)/\Q (.int (j:Int)) H
theorem y6{X:_L.Cx}:MtM X "list.index" (qA7 X.K):=by
 intro pins s σ H x vs v us Q I rx rv h;obtain⟨l,xs,y,j,hj,rfl,rfl,hq,fy,fs,hit,hno,q⟩:=h;cases rx;obtain⟨u,rfl,ru⟩:=rv.one;obtain⟨its,r,pl,hz⟩:=I.list hq;have hl:=r.length;obtain⟨o,n,e,c1,c2,c3⟩:=id pl;have e':s.heap.get? l=some { cls:=.type "list",dict:=o.dict,data:=.seq its.toArray n,slots:=o.slots }:=by
  rw[e];cases o;cases c1;cases c3;rfl
 have rel:∀m (hm:m<xs.length),eqU y (its[m]'(by omega))=eqV xs[m] y:=λm hm=>by
  obtain⟨w,hw,rw'⟩:=r.get (wD hm);rw[wD (by omega)]at hw;cases hw;exact C8 rw' (List.all_eq_true.mp fs _ (vb hm))
 refine call_meets F.slot_list_index ⟨_,e',rfl⟩ F.entry_list_index (F.args_list_index_2 _ _) (SeqAt.list_indexAt l its.toArray n o.dict o.slots u (eqU y) j (by rw[wO];omega) (by
  rw[sizeLine_eq]at hz;omega) ?_ ?_) ⟨e',λw hw=>zp ru fy r fs w (by simpa using hw),⟨.int (j:Int),H,I.tok _,⟨_,rfl⟩,q⟩⟩
 ·rw[vV,rel j hj];exact hit
 ·intro m hm hmj;rw[vV,rel m (by omega)];exact hno m hmj
end
section
open _L
def h9(K:PySem.W.Frag):V->List V->Hp->VK->Prop:=λx vs H Q=>∃l xs y,∃j:Nat,∃hj:j<xs.length,x=.ref l/\vs=[y]/\SqT K H l xs/\flatV y=true/\xs.all flatV=true/\eqV (xs[j]) y=true/\(∀m (hm:m<j),eqV (xs[m]'(wz hm hj)) y=false)/\Q (.int (j:Int)) H
theorem i6{X:_L.Cx}:MtM X "tuple.index" (h9 X.K):=by
 intro pins s σ H x vs v us Q I rx rv h;obtain⟨l,xs,y,j,hj,rfl,rfl,hq,fy,fs,hit,hno,q⟩:=h;cases rx;obtain⟨u,rfl,ru⟩:=rv.one;obtain⟨its,r,pl,hz⟩:=I.tuple hq;have hl:=r.length;obtain⟨o,e,c1,n,c3⟩:=id pl;have e':s.heap.get? l=some { cls:=.type "tuple",dict:=o.dict,data:=.seq its.toArray n,slots:=o.slots }:=by
  rw[e];cases o;cases c1;cases c3;rfl
 have rel:∀m (hm:m<xs.length),eqU y (its[m]'(by omega))=eqV xs[m] y:=λm hm=>by
  obtain⟨w,hw,rw'⟩:=r.get (wD hm);rw[wD (by omega)]at hw;cases hw;exact C8 rw' (List.all_eq_true.mp fs _ (vb hm))
 refine call_meets F.slot_tuple_index ⟨_,e',rfl⟩ F.entry_tuple_index (F.args_tuple_index_2 _ _) (_P.tuple_indexAt l its.toArray n o.dict o.slots u (eqU y) j (by rw[wO];omega) ?_ ?_) ⟨e',λw hw=>zp ru fy r fs w (by simpa using hw),⟨.int (j:Int),H,I.tok _,⟨_,rfl⟩,q⟩⟩
 ·rw[vV,rel j hj];exact hit
 ·intro m hm hmj;rw[vV,rel m (by omega)];exact hno m hmj
end
theorem w5(hg:a.isGlob=false){σc:St}{H:Hp}{Q:VK}(q:tE X.K G F (.index a b) σc H Q):_L.tBM X.K "list" (qA7 X.K) (tE X.K G F a) (tL X.K G F (.cons b .nil)) σc H Q:=by
 obtain⟨φ,h,σ,v,h',R,rs,e,k⟩:=q;unfold ev at e;rw[hg]at e;obtain⟨⟨x,h1⟩,e1,e⟩:=tK e;replace e:=qq e;obtain⟨p,rfl,e⟩:=e;split at e
 ·rename_i ys ey;replace ey:qO h1 p=some ys:=ey;obtain⟨⟨y,h2⟩,e2,e⟩:=tK e;refine⟨φ,h,σ,_,h1,R,rs,e1,λφ1 H1 w x1 R1 r1=>?_⟩;obtain⟨p1,zs1,hp1,hs1,_⟩:=R1.lst ey;obtain⟨q,rfl,hq⟩:=qL r1;rw[hp1]at hq;cases hq;refine⟨.inl ⟨rfl,_,hs1⟩,φ1,h1,σ,[y],h2,R1,rst.mono x1 rs,by unfold evs;rw[e2];unfold evs;rfl,λφ2 H2 yc x2 R2 r2=>?_⟩;cases r2 with
  |cons r3 t=>
   cases t;dsimp only at e;unfold D9 at e;split at e
   ·rename_i xs ex;replace ex:qO h2 p=some xs:=ex;split at e
    ·rename_i hf;simp only[wE]at hf;split at e
     ·rename_i j ej;cases e;obtain⟨p2,zs2,hp2,hs2,rs2⟩:=R2.lst ex;have hpp:=x2.get hp1;rw[hp2]at hpp;cases hpp;cases Zq hf.1 r3;cases zR hf.2 rs2;obtain⟨hj,a1,a2⟩:=List.findIdx?_eq_some_iff_getElem.mp ej;exact⟨_,xs,y,j,hj,rfl,rfl,hs2,by rw[QQ];exact hf.1,by rw[Qm];exact hf.2,a1,λm hm=>by simpa using a2 m hm,k φ2 H2 _ (x1.trans x2) R2 rfl⟩
     ·cases e
    ·cases e
   ·cases e
 ·cases e
theorem d6{g:Nat}{ga:Addr}{og:Obj}(h1g:G[g]?=some ga)(h2g:X.K.lookup ga=some og)(h3g:og.cls=.type "tuple")(h4g:og.dict=none){σc:St}{H:Hp}{Q:VK}(q:tE X.K G F (.index (.glob g) b) σc H Q):_L.tBM X.K "tuple" (h9 X.K) (tE X.K G F (.glob g)) (tL X.K G F (.cons b .nil)) σc H Q:=by
 obtain⟨φ,h,σ,v,h',R,rs,e,k⟩:=q;unfold ev at e;obtain⟨⟨x,h1⟩,e1,e⟩:=tK e;replace e:=qq e;obtain⟨p,rfl,e⟩:=e;split at e
 ·rename_i ys ey;replace ey:qX h1 p=some ys:=ey;have hpg:p=g:=by unfold ev at e1;cases e1;rfl
  subst hpg;obtain⟨⟨y,h2⟩,e2,e⟩:=tK e;refine⟨φ,h,σ,_,h1,R,rs,e1,λφ1 H1 w x1 R1 r1=>?_⟩;obtain⟨p1,zs1,hp1,hs1,_⟩:=R1.tup ey;obtain⟨q,rfl,hq⟩:=qL r1;rw[hp1]at hq;cases hq;have hgg:=R1.glob.get h1g;rw[hp1]at hgg;cases hgg;refine⟨.inr (.inl ⟨rfl,og,h2g,h3g,h4g⟩),φ1,h1,σ,[y],h2,R1,rst.mono x1 rs,by unfold evs;rw[e2];unfold evs;rfl,λφ2 H2 yc x2 R2 r2=>?_⟩;cases r2 with
  |cons r3 t=>
   cases t;dsimp only at e;unfold D9 at e;split at e
   ·rename_i xs ex;replace ex:qX h2 p=some xs:=ex;split at e
    ·rename_i hf;simp only[wE]at hf;split at e
     ·rename_i j ej;cases e;obtain⟨p2,zs2,hp2,hs2,rs2⟩:=R2.tup ex;have hpp:=x2.get hp1;rw[hp2]at hpp;cases hpp;cases Zq hf.1 r3;cases zR hf.2 rs2;obtain⟨hj,a1,a2⟩:=List.findIdx?_eq_some_iff_getElem.mp ej;exact⟨_,xs,y,j,hj,rfl,rfl,hs2,by rw[QQ];exact hf.1,by rw[Qm];exact hf.2,a1,λm hm=>by simpa using a2 m hm,k φ2 H2 _ (x1.trans x2) R2 rfl⟩
     ·cases e
    ·cases e
   ·cases e
 ·cases e
theorem qAG{apos cpos:Pos}(hglob:∀g,a=.glob g->∃ga o,G[g]?=some ga/\X.K.lookup ga=some o/\o.cls=.type "tuple"/\o.dict=none)(hbase:attributeBase ea "index" X.env (eval ea X.env)=eval ea X.env)(hline:(apos.endLine==cpos.line)=true)(hn:qY eb=true)(ha:SE X G F ea a)(hb:SE X G F eb b):
  SE X G F (.Call (.Attribute ea "index" apos) [eb] [] cpos) (.index a b):=by
 cases hg:a.isGlob with
 |false=>exact qp (_L.pe_bm PySem.F.plainAttrs_list PySem.F.slot_list_index PySem.F.type_list_index y6 ha (A3 hn hb U7) hbase (by rw[qI hn];rfl) hline (qI hn) rfl) λ_ _ _=>w5 hg
 |true=>
  unfold E.isGlob at hg;split at hg
  ·obtain⟨ga,o,g1,g2,g3,g4⟩:=hglob _ rfl;exact qp (_L.pe_bm PySem.F.plainAttrs_tuple PySem.F.slot_tuple_index PySem.F.type_tuple_index i6 ha (A3 hn hb U7) hbase (by rw[qI hn];rfl) hline (qI hn) rfl) λ_ _ _=>d6 g1 g2 g3 g4
  ·cases hg
end
section
variable{X:Cx}{pins:List (Addr×Obj)}{σ:_L.St}{fa l I S:Addr}{is:List Int}{kf:Nat->Int}{J:Hp->Prop}
structure Own(X:Cx)(pins:List (Addr×Obj))(a:Addr):Prop where
 up:X.s₀.heap.objs.size<=a
 loc:a≠X.env.locals
 fs:a∉X.fs
 cel:∀x c,X.env.cells.lookup x=some c->c≠a
 pin:∀p∈X.pn++pins,p.1≠a
end
theorem U3{φ:List Addr}{v w w':V}(a:rv φ v w)(b:rv φ v w'):w=w':=by
 cases v with
 |ref i=>
  obtain⟨x,rfl,e1⟩:=qL a;obtain⟨y,rfl,e2⟩:=qL b;rw[e1]at e2;cases e2;rfl
 |int i=>rw[qD a,qD b]
 |bl i=>rw[zS a,zS b]
 |str i=>rw[zd a,zd b]
 |non=>rw[zM a,zM b]
 |_=>cases w<;>cases a
theorem QM{φ:List Addr}:∀{vs ws ws':List V},rvs φ vs ws->rvs φ vs ws'->ws=ws'
 |_,_,_,.nil,.nil=>rfl
 |_,_,_,.cons a r,.cons b s=>by rw[U3 a b,QM r s]
theorem RK.uniq{φ:List Addr}:∀{kvs ks ks':List (Int×V)},RK φ kvs ks->RK φ kvs ks'->ks=ks'
 |_,_,_,.nil,.nil=>rfl
 |_,_,_,.cons a r,.cons b s=>by rw[RK.uniq r s];congr 1;exact Prod.ext (a.1.trans b.1.symm) (U3 a.2 b.2)
theorem Rl.pre{K:PySem.W.Frag}{G φ φ':List Addr}{h h2:AH}{H0 H1:Hp}(R0:Rl K G φ h H0)(R1:Rl K G φ' h2 H1)(x:Ext φ φ')(ht:h2.take h.length=h):Rl K G φ h H1:=by
 have up:∀{i:Nat}{o:O},h[i]?=some o->h2[i]?=some o:=λ{i o} e=>by
  have hi:=(wB.mp e).1;rw[<-ht,vA hi]at e;exact e
 refine⟨R0.len,R0.glob,λi o a e ea=>?_,λi j u y a m1 m2 e1 e2 e3 e4=>R1.inj i j u y a m1 m2 (up e1) (up e2) (x.get e3) (x.get e4)⟩;have r1:=R1.obj i o a (up e) (x.get ea);have r0:=R0.obj i o a e ea
 match o,r0,r1 with
 | .lst false xs,⟨ys,_,p⟩,⟨ys',e',p'⟩=>rw[QM p' (rvs.mono x p)]at e';exact⟨ys,e',p⟩
 | .lst true xs,⟨ys,_,p⟩,⟨ys',e',p'⟩=>rw[QM p' (rvs.mono x p)]at e';exact⟨ys,e',p⟩
 | .tup xs,⟨ys,_,p⟩,⟨ys',e',p'⟩=>rw[QM p' (rvs.mono x p)]at e';exact⟨ys,e',p⟩
 | .ob (.dct _),⟨ks,_,p⟩,⟨ks',e',p'⟩=>rw[RK.uniq p' (RK.mono x p)]at e';exact⟨ks,e',p⟩
 | .ob (.fdc _),⟨ks,_,_,p⟩,⟨ks',o',e',p'⟩=>rw[RK.uniq p' (RK.mono x p)]at e';exact⟨ks,o',e',p⟩
 | .ob (.exn _),_,e'=>exact e'
open _L (It ZL QJ)
abbrev Zf(h:Heap)(z ti to:Addr)(f0 f1:Value):Prop:=
 h.get? z=some { cls:=.type "zip",dict:=none,data:=.fields #[f0,f1,.bool false,.ref ti,.ref to],slots:=#[] }
section
variable{P:Program}{w:World}{A:Around}{E:Value->Shared->Prop}{s:Shared}{z ti to i1 i2 a b T:Addr}{k:Nat}{xs ys:Array Value}{x y:Value}{oT:Obj}{f1:Bool}
structure Wd(h:Heap)(z ti to i1 i2 a b T:Addr)(f1:Bool)(k:Nat)(xs ys:Array Value):Prop where
 z:Zf h z ti to (rawInt T) (.bool f1)
 ti:IsPair h ti (.ref i1) (.ref i2)
 t:∃o,h.get? T=some o
 n1:h.IsListIter i1 a k
 n2:h.IsListIter i2 b k
 e1:h.IsList a xs
 e2:h.IsList b ys
structure Ad(z ti i1 i2 a b T:Addr):Prop where
 nd:[z,ti,i1,i2].Nodup
 l1:a∉[z,i1,i2]
 l2:b∉[z,i1,i2]
 t:T∉[z,i1,i2]
abbrev Kd(z i1 i2:Addr)(h g:Heap):Prop:=∀c o,c∉[z,i1,i2]->h.get? c=some o->g.get? c=some o
theorem W5{Q:Bool->Shared->Prop}(S:Zf s.heap z ti to (rawInt T) (.bool f1))(hT:s.heap.get? T=some oT)(h:∀g,Zf g z ti to (rawInt T) (.bool true)->Heap.SameBut z s.heap g->Q false { s with heap:=g }):
  wpAny (model P w) A (Builtin.SmallTypes.ownedTupleIsFree (.ref z)) Q E s:=by
 unfold Builtin.SmallTypes.ownedTupleIsFree;refine uF (wpAny_field S rfl (x:=rawInt T) rfl ?_);show wpAny _ _ (loadIfAlive ((T:Int).toNat) >>=_) _ _ _;refine uF (PySem.W.kdx_alive (a:=T) hT ?_);show wpAny _ _ (field (.ref z) 1 >>=_) _ _ _;refine uF (wpAny_field S rfl (x:=.bool f1) rfl ?_);cases f1 with
 |true=>exact uG (h s.heap S ⟨rfl,λ_ _=>rfl⟩)
 |false=>exact uF (wpAny_setField_rec S (by simp) λg zg m=>uG (h g zg m))
theorem Wd.setZ{h g:Heap}(D:Ad z ti i1 i2 a b T)(S:Wd h z ti to i1 i2 a b T f1 k xs ys){f2:Bool}(hz:Zf g z ti to (rawInt T) (.bool f2))(e:Heap.SameBut z h g):Wd g z ti to i1 i2 a b T f2 k xs ys:=by
 have d:=D.nd;have d1:=D.l1;have d2:=D.l2;have d3:=D.t;simp only[wf,wJ,wR,or_false,not_or]at d d1 d2 d3;obtain⟨o,ho⟩:=S.t;exact⟨hz,e.extBut _ _ (Ne.symm d.1.1) S.ti,⟨o,e.extBut _ _ d3.1 ho⟩,S.n1.extBut e.extBut (Ne.symm d.1.2.1),S.n2.extBut e.extBut (Ne.symm d.1.2.2),S.e1.extBut e.extBut d1.1,S.e2.extBut e.extBut d2.1⟩
theorem qBJ{Q:Value->Shared->Prop}(D:Ad z ti i1 i2 a b T)(S:Wd s.heap z ti to i1 i2 a b T f1 k xs ys)(hx:xs[k]?=some x)(hy:ys[k]?=some y)
  (hQ:∀g,Wd g z ti to i1 i2 a b T true (k+1) xs ys->IsPair g s.heap.objs.size x y->Kd z i1 i2 s.heap g->s.heap.objs.size<=g.objs.size->Q (.ref s.heap.objs.size) { s with heap:=g }):
  wpAny (model P w) A (Builtin.«zip.__next__» ⟨[.ref z],[]⟩) (λfin s'=>∃v,fin=.done (.ret v)/\Q v s') E s:=by
 obtain⟨oT,hT⟩:=S.t;show wpAny _ _ (field (.ref z) 2 >>=_) _ _ _;refine uF (wpAny_field S.z rfl (x:=.bool false) rfl (show wpAny _ _ (field (.ref z) 3 >>=_) _ _ _ from uF (wpAny_field S.z rfl (x:=.ref ti) rfl (uF (wpAny_seqItems S.ti rfl ?_)))));show wpAny _ _ (Builtin.SmallTypes.ownedTupleIsFree (.ref z) >>=_) _ _ _;refine uF (W5 S.z hT λg1 z1 m1=>?_);have S1:=S.setZ D z1 m1;have d:=D.nd;have d1:=D.l1;have d2:=D.l2;have d3:=D.t;simp only[wf,wJ,wR,or_false,not_or]at d d1 d2 d3;simp only[vF,if_false];refine uF ?_;simp only[List.forIn_toArray,vz,List.forIn_nil];refine uF (uF (wpAny_holding (show wpAny _ _ (Builtin.SmallTypes.nextOf (.ref i1) >>=_) _ _ _ from uF (wpAny_nextOf_list_item S1.n1 S1.e1 hx λg2 n2 m2=>uG (uG ?_)))));have N2:g2.IsListIter i2 b k:=S1.n2.extBut m2.extBut (Ne.symm d.2.2.1);have _L:g2.IsList b ys:=S1.e2.extBut m2.extBut d2.2.1;refine uF (uF (wpAny_holding (show wpAny _ _ (Builtin.SmallTypes.nextOf (.ref i2) >>=_) _ _ _ from uF (wpAny_nextOf_list_item N2 _L hy λg3 n3 m3=>uG (uG (uG ?_))))));refine uF (wpAny_newTuple (hsz:=by show 2<=sizeLine;decide) (uG ⟨_,rfl,?_⟩));have sz:g3.objs.size=s.heap.objs.size:=by rw[m3.1,m2.1,m1.1]
 have lift:∀c o,c∉[z,i1,i2]->s.heap.get? c=some o->(g3.push { cls:=.type "tuple",data:=.seq #[x,y] }).get? c=some o:=λc o hc ho=>by
  simp only[wJ,wR,or_false,not_or]at hc;exact Heap.get?_push_of_some _ (m3.extBut _ _ hc.2.2 (m2.extBut _ _ hc.2.1 (m1.extBut _ _ hc.1 ho)))
 have up:∀c o,g3.get? c=some o->(g3.push { cls:=.type "tuple",data:=.seq #[x,y] }).get? c=some o:=λc o ho=>Heap.get?_push_of_some _ ho;have W:Wd (g3.push { cls:=.type "tuple",data:=.seq #[x,y] }) z ti to i1 i2 a b T true (k+1) xs ys:=
  ⟨up _ _ (m3.extBut _ _ d.1.2.2 (m2.extBut _ _ d.1.2.1 S1.z)),up _ _ (m3.extBut _ _ d.2.1.2 (m2.extBut _ _ d.2.1.1 S1.ti)),⟨oT,lift _ _ D.t hT⟩,(n2.extBut m3.extBut d.2.2.1).at λo e=>up _ o e,n3.at λo e=>up _ o e,S.e1.at λo e=>lift _ o D.l1 e,S.e2.at λo e=>lift _ o D.l2 e⟩
 have Tp:IsPair (g3.push { cls:=.type "tuple",data:=.seq #[x,y] }) g3.objs.size x y:=Heap.get?_push_size _ rfl;show Q (.ref g3.objs.size) _;rw[sz]at Tp ⊢;exact hQ _ W Tp lift (by rw[Heap.size_push,sz];exact Nat.le_succ _)
theorem qBg{Q:Fin->Shared->Prop}(hh:A.handled=none)(D:Ad z ti i1 i2 a b T)(S:Wd s.heap z ti to i1 i2 a b T f1 k xs ys)(hend:xs[k]?=none\/ys[k]?=none)
  (hE:∀g e,Kd z i1 i2 s.heap g->(∃o,g.get? e=some o/\o.cls=.type "StopIteration")->E (.ref e) { s with heap:=g }):
  wpAny (model P w) A (Builtin.«zip.__next__» ⟨[.ref z],[]⟩) Q E s:=by
 obtain⟨oT,hT⟩:=S.t;show wpAny _ _ (field (.ref z) 2 >>=_) _ _ _;refine uF (wpAny_field S.z rfl (x:=.bool false) rfl (show wpAny _ _ (field (.ref z) 3 >>=_) _ _ _ from uF (wpAny_field S.z rfl (x:=.ref ti) rfl (uF (wpAny_seqItems S.ti rfl ?_)))));show wpAny _ _ (Builtin.SmallTypes.ownedTupleIsFree (.ref z) >>=_) _ _ _;refine uF (W5 S.z hT λg1 z1 m1=>?_);have S1:=S.setZ D z1 m1;have d:=D.nd;have d1:=D.l1;have d2:=D.l2;simp only[wf,wJ,wR,or_false,not_or]at d d1 d2;simp only[vF,if_false];refine uF ?_;simp only[List.forIn_toArray,vz,List.forIn_nil];cases hx:xs[k]? with
 |none=>exact uF (uF (wpAny_holding (show wpAny _ _ (Builtin.SmallTypes.nextOf (.ref i1) >>=_) _ _ _ from uF (wpAny_nextOf_list_end hh S1.n1 S1.e1 hx λg2 e m2 he=>hE g2 e (λc o hc ho=>by
   simp only[wJ,wR,or_false,not_or]at hc;exact m2 _ _ hc.2.1 (m1.extBut _ _ hc.1 ho)) he))))
 |some x=>
  have hy:ys[k]?=none:=by
   rcases hend with e|e
   ·rw[hx]at e;cases e
   ·exact e
  refine uF (uF (wpAny_holding (show wpAny _ _ (Builtin.SmallTypes.nextOf (.ref i1) >>=_) _ _ _ from uF (wpAny_nextOf_list_item S1.n1 S1.e1 hx λg2 n2 m2=>uG (uG ?_)))));have N2:g2.IsListIter i2 b k:=S1.n2.extBut m2.extBut (Ne.symm d.2.2.1);have _L:g2.IsList b ys:=S1.e2.extBut m2.extBut d2.2.1;exact uF (uF (wpAny_holding (show wpAny _ _ (Builtin.SmallTypes.nextOf (.ref i2) >>=_) _ _ _ from uF (wpAny_nextOf_list_end hh N2 _L hy λg3 e m3 he=>hE g3 e (λc o hc ho=>by
   simp only[wJ,wR,or_false,not_or]at hc;exact m3 _ _ hc.2.2 (m2.extBut _ _ hc.2.1 (m1.extBut _ _ hc.1 ho))) he))))
theorem qBT{Q:Option Value->Shared->Prop}(D:Ad z ti i1 i2 a b T)(S:Wd s.heap z ti to i1 i2 a b T f1 k xs ys)(hx:xs[k]?=some x)(hy:ys[k]?=some y)
  (hQ:∀g,Wd g z ti to i1 i2 a b T true (k+1) xs ys->IsPair g s.heap.objs.size x y->Kd z i1 i2 s.heap g->s.heap.objs.size<=g.objs.size->Q (some (.ref s.heap.objs.size)) { s with heap:=g }):wpAny (model P w) A (pyNext (.ref z)) Q E s:=by
 have ty:s.TypeIs (.ref z) "zip":=⟨_,S.z,rfl⟩
 unfold pyNext;exact uF (wpAny_attempt (wpAny_callSpecial?_slot (name:=Str.ofString "__next__") ty PySem.F.slot_zip_next (wpAny_call_entry PySem.F.slot_zip_next ty PySem.F.entry_zip_next (qBJ D S hx hy λg b1 b2 b3 b4=>uG (hQ g b1 b2 b3 b4)) (PySem.F.args_zip_next_1 _))))
theorem qBV{Q:Option Value->Shared->Prop}(hh:A.handled=none)(D:Ad z ti i1 i2 a b T)(S:Wd s.heap z ti to i1 i2 a b T f1 k xs ys)(hend:xs[k]?=none\/ys[k]?=none)
  (hQ:∀g,Kd z i1 i2 s.heap g->Q none { s with heap:=g }):wpAny (model P w) A (pyNext (.ref z)) Q E s:=by
 have ty:s.TypeIs (.ref z) "zip":=⟨_,S.z,rfl⟩
 unfold pyNext;refine uF (wpAny_attempt (wpAny_callSpecial?_slot (name:=Str.ofString "__next__") ty PySem.F.slot_zip_next (wpAny_call_entry PySem.F.slot_zip_next ty PySem.F.entry_zip_next (qBg hh D S hend λg e hk he=>?_) (PySem.F.args_zip_next_1 _))));obtain⟨o,ho,hc⟩:=he;exact uF (wpAny_isInstance (T:="StopIteration") (b:=true) ⟨o,ho,hc⟩ isSubtype_stop (uG (hQ _ hk)))
end
theorem qBh:typeLookup (.type "zip") "keys"=pure none:=by rw[typeLookup_type,builtinLookup_eq_fast];kernel_rfl
theorem qBU:typeLookup (.type "zip") "__getattr__"=pure none:=by rw[typeLookup_type,builtinLookup_eq_fast];kernel_rfl
theorem qAB:entryFor table "zip.__getattribute__"=some Builtin.«object.__getattribute__»:=entryFor_alias (id':="object.__getattribute__") (by kernel_rfl) (by decide +kernel) (by decide +kernel) (by kernel_rfl)
theorem qAA(z ti to:Addr)(f0 f1:Value)(u:Tok):Meets (Builtin.«object.__getattribute__» ⟨[.ref z,.str "keys" u],[]⟩) (λA R s=>Zf s.heap z ti to f0 f1/\raisesAttr (.ref z) "keys" A R s):=
 Meets.of_wp λprog w A R s hs=>by
  obtain⟨hp,g,d,tk,os⟩:=s;obtain⟨hx,hs⟩:=hs;have hT:(⟨hp,g,d,tk,os⟩:Shared).TypeIs (.ref z) "zip":=⟨_,hx,rfl⟩
  have q1:=qBh;have q2:(["__module__","__name__","__qualname__","__doc__","__annotations__"]:List Str).contains "keys"=false:=by decide
  unfold Builtin.«object.__getattribute__»
  repeat (any_goals (first|assumption|wp_step))
  exact wpAny_raiseAttrError hs.1 hs.2 (attrMsg_fits (by decide +kernel) (by decide))
theorem qCN{prog:Program}{w:World}{A:Around}{E:Value->Shared->Prop}{s:Shared}{z ti to:Addr}{f0 f1:Value}{Q:Option Value->Shared->Prop}(hz:Zf s.heap z ti to f0 f1)(hA:A.handled=none)
  (h:∀g tk,(∀c o,s.heap.get? c=some o->g.get? c=some o)->Q none { s with heap:=g,toks:=tk }):wpAny (model prog w) A (getAttr? (.ref z) "keys") Q E s:=by
 obtain⟨hp,g,d,tk,os⟩:=s;have hT:∀tk',(⟨hp,g,d,tk',os⟩:Shared).TypeIs (.ref z) "zip":=λ_=>⟨_,hz,rfl⟩
 have f1:=sub_AttributeError;have f3:=PySem.F.slot_zip_getattribute.lookup;have f4:=PySem.F.slot_zip_getattribute.bind (.ref z);have f5:=qBU;unfold getAttr? getAttrBy? getAttrBy
 repeat (any_goals (first|assumption|exact hT _|((with_reducible show wpAny _ _ (call (Value.builtin "zip.__getattribute__") _ _) _ _ _);refine call_meets PySem.F.slot_zip_getattribute (hT _) qAB (PySem.F.args_zip_getattribute_2 _ _) (qAA z ti to _ _ _) ⟨hz,hA,λg' tk' e hx'=>?_⟩)|wp_step))
 obtain⟨t',u',he⟩:=hx'.there;show wpAny _ _ (getattributeRaised _ _ _ _ _ _ _) _ _ _;unfold getattributeRaised;have ty:∀tk2,(⟨g',g,d,tk2,os⟩:Shared).TypeIs (.ref e) "AttributeError":=λ_=>⟨_,he,rfl⟩
 repeat (any_goals (first|assumption|exact ty _|wp_step))
 exact h g' _ λc o q=>hx'.keeps c o q
theorem jN:plainId "dict.update.loop"=true:=by decide +kernel
theorem JA:entryFor table "dict.update.loop"=some Builtin.«dict.update.loop»:=entryFor_of_fast (by kernel_rfl)
section
variable{P:Program}{w:World}{K:Type}[DecidableEq K]{knd:KeyKind P w K}{A:Around}{E:Value->Shared->Prop}{z ti to i1 i2 a b d:Addr}{xs ys:Array Value}
def Left(knd:KeyKind P w K)(xs ys:Array Value)(k:Nat)(L:List (K×Value)):Prop:=
 (∀j p,L[j]?=some p->∃x,xs[k+j]?=some x/\knd.is p.1 x=true/\ys[k+j]?=some p.2)/\(xs[k+L.length]?=none\/ys[k+L.length]?=none)
theorem Left.next{k:Nat}{p:K×Value}{L:List (K×Value)}(h:Left knd xs ys k (p::L)):(∃x,xs[k]?=some x/\knd.is p.1 x=true/\ys[k]?=some p.2)/\Left knd xs ys (k+1) L:=by
 refine⟨by simpa using h.1 0 p rfl,λj q e=>?_,?_⟩
 ·have:=h.1 (j+1) q (by simpa using e);rw[show k+(j+1)=k+1+j by omega]at this;exact this
 ·have:=h.2;rw[List.length_cons,show k+(L.length+1)=k+1+L.length by omega]at this;exact this
noncomputable def qE7(kvs L:List (K×Value)):List (K×Value):=L.foldl (λacc p=>stored acc p.1 p.2) kvs
theorem ZH(kvs:List (K×Value))(k:K)(v:Value):(stored kvs k v).length<=kvs.length+1:=by
 unfold stored;split<;>simp
theorem X9{s:Shared}{kvs:List (K×Value)}{k:K}{x y:Value}{p:Addr}{Q:Unit->Shared->Prop}(hp:IsPair s.heap p x y)(hk:knd.is k x=true)(hd:s.heap.DictOf knd d kvs)(hz:kvs.length<=sizeLine)
  {F:List Value->Sem Unit}{C:Value->Sem (List Value)}(h:∀g,g.DictOf knd d (stored kvs k y)->Heap.SameBut d s.heap g->Q () { s with heap:=g,toks:=s.toks+1 }):
  wpAny (model P w) A (do
   let pair <- (Builtin.Dict.pairItems (.ref p)).tryCatch C
   match pair with
   | [k,v]=>holding [k,v] (dictSet d k v)
   |l=>F l) Q E s:=by
 refine uF (wpAny_tryCatch ?_);unfold Builtin.Dict.pairItems;refine uF (wpAny_typeOf (T:="tuple") ⟨_,hp,rfl⟩ ?_);simp only[show ((Value.type "tuple"==Value.type "list")||(Value.type "tuple"==Value.type "tuple"))=true from by decide,if_true];refine uF (wpAny_seqItems hp rfl (uG ?_));exact wpAny_holding (wpAny_dictSet_pairs hk hd h hz)
theorem W4(hh:A.handled=none):∀(L:List (K×Value)) (k:Nat) (i:Int) (s:Shared) (kvs:List (K×Value)) (T:Addr) (f1:Bool) (R:Result->Shared->Prop),Ad z ti i1 i2 a b T->d∉[z,ti,i1,i2,a,b,T]->Wd s.heap z ti to i1 i2 a b T f1 k xs ys->s.heap.DictOf knd d kvs->Left knd xs ys k L->kvs.length+L.length<=sizeLine ->
  (∀g tk,g.DictOf knd d (qE7 kvs L)->(∀c o,c∉[z,i1,i2,d]->s.heap.get? c=some o->g.get? c=some o)->R (.ok (.ret .none)) { s with heap:=g,toks:=tk }) ->
  codeAny (model P w) A (.builtin "dict.update.loop" ⟨[.ref d,.ref z,rawInt i,.none],[]⟩) R s
 | [],k,i,s,kvs,T,f1,R,D,hdn,S,hd,hL,hz,hR=>by
  refine codeAny_builtin JA ?_;rw[Around.under_plainId jN _];show wpAny _ A.in1 (pyNext (.ref z) >>=_) _ _ s;refine uF (qBV hh D S (by simpa using hL.2) λg hk=>?_);refine uF (uG (uG ?_));simp only[wJ,wR,or_false,not_or]at hdn;obtain⟨o,es,ep,ho,r⟩:=hd;exact hR g s.toks ⟨o,es,ep,hk _ _ (by simp[hdn]) ho,r⟩ λc o hc ho=>hk c o (λq=>hc (by simp only[wJ,wR,or_false]at q ⊢;rcases q with q|q|q<;>simp[q])) ho
 |p::L,k,i,s,kvs,T,f1,R,D,hdn,S,hd,hL,hz,hR=>by
  obtain⟨⟨x,hx,hkx,hy⟩,hL'⟩:=hL.next;have hdn':=hdn;simp only[wJ,wR,or_false,not_or]at hdn';refine codeAny_builtin JA ?_;rw[Around.under_plainId jN _];show wpAny _ A.in1 (pyNext (.ref z) >>=_) _ _ s;refine uF (qBT D S hx hy λg S' hp hk hs=>?_);obtain⟨o,es,ep,ho,r⟩:=hd;have dlt:=Heap.lt_size ho;have hd1:g.DictOf knd d kvs:=⟨o,es,ep,hk _ _ (by simp[hdn']) ho,r⟩
  refine uF (wpAny_holding (X9 hp hkx hd1 (by simp at hz;omega) λg2 hd2 m2=>?_));refine uG ⟨plainId_quiet jN _,?_⟩;have S2:Wd g2 z ti to i1 i2 a b T true (k+1) xs ys:=by
   obtain⟨oT,hT⟩:=S'.t;exact⟨m2.extBut _ _ (Ne.symm hdn'.1) S'.z,m2.extBut _ _ (Ne.symm hdn'.2.1) S'.ti,⟨oT,m2.extBut _ _ (Ne.symm hdn'.2.2.2.2.2.2) hT⟩,S'.n1.extBut m2.extBut (Ne.symm hdn'.2.2.1),S'.n2.extBut m2.extBut (Ne.symm hdn'.2.2.2.1),S'.e1.extBut m2.extBut (Ne.symm hdn'.2.2.2.2.1),S'.e2.extBut m2.extBut (Ne.symm hdn'.2.2.2.2.2.1)⟩
  have ln:=ZH kvs p.1 p.2;refine W4 hh L (k+1) (i+1) _ (stored kvs p.1 p.2) T true R D hdn S2 hd2 hL' (by simp at hz;omega) λg3 tk hd3 k3=>?_;exact hR g3 tk hd3 λc o hc ho=>k3 c o hc (m2.extBut _ _ (λq=>hc (by simp[q])) (hk c o (λq=>hc (by simp only[wJ,wR,or_false]at q ⊢;rcases q with q|q|q<;>simp[q])) ho))
theorem m4(hh:A.handled=none)(L:List (K×Value)){s:Shared}{R:Result->Shared->Prop}{p q:Value}(D:ZipApart z ti to i1 i2 a b)(hdn:d∉[z,ti,to,i1,i2,a,b])
  (hz:IsZip s.heap z ti to .none) (hti:IsPair s.heap ti (.ref i1) (.ref i2)) (hto:IsPair s.heap to p q) (n1:s.heap.IsListIter i1 a 0) (n2:s.heap.IsListIter i2 b 0) (e1:s.heap.IsList a xs) (e2:s.heap.IsList b ys)
  (hd:s.heap.DictOf knd d []) (hL:Left knd xs ys 0 L) (hl:L.length<=sizeLine)
  (hR:∀g tk,g.DictOf knd d (qE7 [] L)->(∀c o,c∉[z,to,i1,i2,d]->s.heap.get? c=some o->g.get? c=some o)->R (.ok (.ret .none)) { s with heap:=g,toks:=tk }):
  codeAny (model P w) A (.builtin "dict.update.loop" ⟨[.ref d,.ref z,rawInt 0,.none],[]⟩) R s:=by
 have hdn':=hdn;simp only[wJ,wR,or_false,not_or]at hdn';have hd0:=hd;obtain⟨o,es,ep,ho,r⟩:=hd;have dlt:=Heap.lt_size ho;refine codeAny_builtin JA ?_;rw[Around.under_plainId jN _];show wpAny _ A.in1 (pyNext (.ref z) >>=_) _ _ s;cases L with
 |nil=>
  refine uF (wpAny_pyNext_zip_end hh D hz hti hto n1 n2 e1 e2 (by simpa using hL.2) λg hk=>?_);refine uF (uG (uG ?_));exact hR g s.toks ⟨o,es,ep,hk _ _ hdn'.1 hdn'.2.2.1 hdn'.2.2.2.1 hdn'.2.2.2.2.1 ho,r⟩ λc o hc ho=>hk c o (λq=>hc (by simp[q])) (λq=>hc (by simp[q])) (λq=>hc (by simp[q])) (λq=>hc (by simp[q])) ho
 |cons pr L=>
  obtain⟨⟨x,hx,hkx,hy⟩,hL'⟩:=hL.next;refine uF (wpAny_pyNext_zip_item D hz hti hto n1 n2 e1 e2 hx hy λg zg tg ng1 ng2 tp sz hk=>?_);have hd1:g.DictOf knd d []:=⟨o,es,ep,hk _ _ hdn'.1 hdn'.2.2.1 hdn'.2.2.2.1 hdn'.2.2.2.2.1 ho,r⟩
  refine uF (wpAny_holding (X9 tp hkx hd1 (by simp) λg2 hd2 m2=>?_));refine uG ⟨plainId_quiet jN _,?_⟩;have zl:=Heap.lt_size hz;have tl:=Heap.lt_size hti;obtain⟨o1,q1,_⟩:=n1;obtain⟨o2,q2,_⟩:=n2;obtain⟨o3,q3,_⟩:=id e1;obtain⟨o4,q4,_⟩:=id e2;have l1:=Heap.lt_size q1;have l2:=Heap.lt_size q2;have S2:Wd g2 z ti to i1 i2 a b s.heap.objs.size false 1 xs ys:=
   ⟨m2.extBut _ _ (Ne.symm hdn'.1) zg,m2.extBut _ _ (Ne.symm hdn'.2.1) (hk _ _ D.TIz D.TITO D.TIi1 D.TIi2 hti),⟨_,m2.extBut _ _ (Ne.symm (wj dlt)) tp⟩,ng1.extBut m2.extBut (Ne.symm hdn'.2.2.2.1),ng2.extBut m2.extBut (Ne.symm hdn'.2.2.2.2.1),
    (e1.at λo e=>hk _ o D.l1z D.l1TO D.l1i1 D.l1i2 e).extBut m2.extBut (Ne.symm hdn'.2.2.2.2.2.1),(e2.at λo e=>hk _ o D.l2z D.l2TO D.l2i1 D.l2i2 e).extBut m2.extBut (Ne.symm hdn'.2.2.2.2.2.2)⟩
  have ln:=ZH ([]:List (K×Value)) pr.1 pr.2;have D2:Ad z ti i1 i2 a b s.heap.objs.size:=by
   refine⟨?_,?_,?_,?_⟩
   ·simp only[wf,wJ,wR,or_false,not_or,vW,not_false_eq_true,and_true];exact⟨⟨Ne.symm D.TIz,Ne.symm D.i1z,Ne.symm D.i2z⟩,⟨D.TIi1,D.TIi2⟩,D.i12⟩
   ·simp only[wJ,wR,or_false,not_or];exact⟨D.l1z,D.l1i1,D.l1i2⟩
   ·simp only[wJ,wR,or_false,not_or];exact⟨D.l2z,D.l2i1,D.l2i2⟩
   ·simp only[wJ,wR,or_false,not_or];exact⟨vR zl,vR l1,vR l2⟩
  have hdn2:d∉[z,ti,i1,i2,a,b,s.heap.objs.size]:=by
   simp only[wJ,wR,or_false,not_or];exact⟨hdn'.1,hdn'.2.1,hdn'.2.2.2.1,hdn'.2.2.2.2.1,hdn'.2.2.2.2.2.1,hdn'.2.2.2.2.2.2,wj dlt⟩
  refine W4 hh L 1 1 _ (stored [] pr.1 pr.2) s.heap.objs.size false R D2 hdn2 S2 hd2 hL' (by simp at hl ln;omega) λg3 tk hd3 k3=>?_;exact hR g3 tk hd3 λc o hc ho=>by
   simp only[wJ,wR,or_false,not_or]at hc;exact k3 c o (by simp[hc]) (m2.extBut _ _ hc.2.2.2.2 (hk c o hc.1 hc.2.1 hc.2.2.1 hc.2.2.2.1 ho))
theorem qBK(hh:A.handled=none)(L:List (K×Value)){s:Shared}{Q:Value->Shared->Prop}{p q:Value}(D:ZipApart z ti to i1 i2 a b)
  (hz:IsZip s.heap z ti to .none) (hti:IsPair s.heap ti (.ref i1) (.ref i2)) (hto:IsPair s.heap to p q) (n1:s.heap.IsListIter i1 a 0) (n2:s.heap.IsListIter i2 b 0) (e1:s.heap.IsList a xs) (e2:s.heap.IsList b ys)
  (hL:Left knd xs ys 0 L) (hl:L.length<=sizeLine)
  (h:∀g tk,g.DictOf knd s.heap.objs.size (qE7 [] L)->(∀c o,c∉[z,to,i1,i2]->s.heap.get? c=some o->g.get? c=some o)->Q (.ref s.heap.objs.size) { s with heap:=g,toks:=tk }):
  wpAny (model P w) A (call (.type "dict") [.ref z]) Q E s:=by
 refine callType_codes (Q₁:=λobj s₁=>obj=.ref s.heap.objs.size/\s₁={ s with heap:=s.heap.push { cls:=.type "dict",data:=.dict #[] } }) PySem.F.kt_called_dict (PySem.F.kt_typeCall_dict_1 _) PySem.F.entry_dict_init (kt_code_dict_new _ ⟨rfl,rfl⟩) ?_;rintro obj s₁ ⟨rfl,rfl⟩;have new:(s.heap.push { cls:=.type "dict",data:=.dict #[] }).DictOf knd s.heap.objs.size []:=Heap.DictOf.new s.heap;refine⟨new.typeIs,PySem.F.args_dict_init_2 _ _,?_⟩;unfold Builtin.«dict.__init__»;refine uF (by
  unfold Builtin.Dict.selfAndRest;refine uF (wpAny_notOrdered_dict new.typeIs ?_);show wpAny _ _ (pure (s.heap.objs.size,[Value.ref z])) _ _ _;refine uG ?_;show wpAny _ _ (Builtin.Dict.updateFrom "dict.__init__" s.heap.objs.size (.ref z) [] .none) _ _ _;unfold Builtin.Dict.updateFrom;have hz':IsZip (s.heap.push { cls:=.type "dict",data:=.dict #[] }) z ti to .none:=Heap.get?_push_of_some _ hz;refine uF (wpAny_typeOf (T:="zip") ⟨_,hz',rfl⟩ ?_);rw[if_pos (by decide)];refine uF (qCN hz' hh λg tk hk=>?_);simp only[Option.isNone_none,if_true];refine uF (wpAny_rule ?_);have up:∀c o,s.heap.get? c=some o->g.get? c=some o:=λc o e=>hk _ _ (Heap.get?_push_of_some _ e);refine uF (wpAny_pyIter_zip (show IsZip g z ti to .none from up _ _ hz) ?_);have lt:∀{c o},s.heap.get? c=some o->s.heap.objs.size≠c:=λe=>vR (Heap.lt_size e);obtain⟨o1,q1,_⟩:=id n1;obtain⟨o2,q2,_⟩:=id n2;obtain⟨o3,q3,_⟩:=id e1;obtain⟨o4,q4,_⟩:=id e2;have N1:g.IsListIter i1 a 0:=n1.at λo e=>up _ o e;have N2:g.IsListIter i2 b 0:=n2.at λo e=>up _ o e;have E1:g.IsList a xs:=e1.at λo e=>up _ o e;have E2:g.IsList b ys:=e2.at λo e=>up _ o e;refine uG ⟨plainId_quiet jN _,?_⟩;refine m4 (A:=A.in1) (s:={ s with heap:=g,toks:=tk }) (d:=s.heap.objs.size) hh L D ?_ (up _ _ hz) (up _ _ hti) (up _ _ hto) N1 N2 E1 E2 ?_ hL hl λg3 tk3 hd3 k3=>?_
  ·simp only[wJ,wR,or_false,not_or];exact⟨lt hz,lt hti,lt hto,lt q1,lt q2,lt q3,lt q4⟩
  ·obtain⟨o,es,ep,ho,r⟩:=new;exact⟨o,es,ep,hk _ _ ho,r⟩
  ·refine⟨rfl,h g3 tk3 hd3 λc o hc ho=>k3 c o ?_ (up _ _ ho)⟩;simp only[wJ,wR,or_false,not_or]at hc ⊢;exact⟨hc.1,hc.2.1,hc.2.2.1,hc.2.2.2,Ne.symm (lt ho)⟩)
end
open _L (kV KV QA qb)
noncomputable def qFn(K:PySem.W.Frag)(ta:TA):TE:=λσ H Q=>ta σ H λvs H1=>∃a b,∃ks:List Key,∃ys,vs=[.ref a,.ref b]/\SqL K H1 a (ks.map kV)/\SqL K H1 b ys/\ks.length<=100000/\∀p,H1 p=none->Q (.ref p) (upd H1 p (.dK (QA [] (ks.zip ys))))
theorem u5{xs:List V}{us:List Value}(r:Vals xs us){i:Nat}{u:Value}(h:us[i]?=some u):∃x,xs[i]?=some x/\RelV x u:=by
 induction r generalizing i with
 |nil=>simp at h
 |cons r t ih=>
  cases i with
  |zero=>simp at h;subst h;exact⟨_,rfl,r⟩
  |succ i=>simpa using ih (by simpa using h)
theorem qDr{P:Program}{w:World}{ks:List Key}{ys:List V}{us ws:List Value}(r1:Vals (ks.map kV) us)(r2:Vals ys ws):KV (ks.zip ys) (ks.zip ws)/\Left (qb P w) us.toArray ws.toArray 0 (ks.zip ws):=by
 have l1:ks.length=us.length:=by have:=r1.length;simpa using this
 have l2:=r2.length;refine⟨?_,λj p hp=>?_,?_⟩
 ·clear l1 r1 us
  induction r2 generalizing ks with
  |nil=>simp;exact .nil
  |cons r t ih=>
   cases ks with
   |nil=>simp;exact .nil
   |cons k ks=>exact .cons ⟨rfl,r⟩ (ih (by simpa using l2))
 ·rw[List.getElem?_zip_eq_some]at hp;have hj:j<us.length:=by rw[<-l1];exact(wB.mp hp.1).1
  obtain⟨x,hx,rx⟩:=u5 r1 (wD hj);rw[wg,hp.1]at hx;cases hx;exact⟨us[j],by simpa using hj,_L.kV_is rx,by simpa using hp.2⟩
 ·rw[uA];rcases Nat.le_total ks.length ws.length with h|h
  ·left;rw[Nat.min_eq_left h];simp;omega
  ·right;rw[Nat.min_eq_right h];simp
theorem g6{c n m:Nat}(h:c<n)(k:n<=m):c≠m:=by omega
section
variable{X:Cx}
theorem M0{ea eb:Expr}{ta:TA}{p p2 pos pos2:Pos}(hc:X.calm=true)(hg:_L.Gl X "dict")(hm:X.mg "dict"=none)(hg2:_L.Gl X "zip")(hm2:X.mg "zip"=none)(ha:PA X [ea,eb] ta)(h1:qY ea=true)(h2:qY eb=true):
  PE X (.Call (.Name "dict" p) [.Call (.Name "zip" p2) [ea,eb] [] pos2] [] pos) (qFn X.K ta):=by
 intro pins s σ H Q I h;refine Call_ (_L.ld_blt I hg hm PyProof.Rows.boot_dict (PyProof.Rows.callWith_type1 ?_ rfl rfl));show wpAny _ _ (spliced ((false,eval _ X.env)::backTo pos (starEach [] X.env))) _ _ s;refine Calls.spliced_cons ?_;refine Call_ (_L.ld_blt I hg2 hm2 PyProof.Rows.boot_zip (PyProof.Rows.callWith_type1 (_L.thn (ha pos2 pins s σ H _ I h) λus s1 ⟨vs,H1,I1,r1,q1⟩=>?_) (qI h1) (jI (by simp[h2]))));obtain⟨a,b,ks,ys,e,hq1,hq2,hl,q⟩:=q1;subst e;cases r1 with
 |cons r rr=>
  cases rr with
  |cons r' rr=>
   cases rr;cases r;cases r';obtain⟨its1,rv1,p1,_⟩:=I1.list hq1;obtain⟨its2,rv2,p2,_⟩:=I1.list hq2;have a1:a<s1.heap.objs.size:=by obtain⟨_,e,_⟩:=p1.isList;exact Heap.lt_size e
   have a2:b<s1.heap.objs.size:=by obtain⟨_,e,_⟩:=p2.isList;exact Heap.lt_size e
   refine call_zip_2 p1.isList p2.isList λg hz hTI hTO hi1 hi2 sz hk=>?_;refine Calls.spliced_nil ?_;obtain⟨kv,lf⟩:=qDr (P:=X.prog) (w:=X.w) rv1 rv2;have E1:g.IsList a its1.toArray:=p1.isList.at λo e=>hk _ o e;have E2:g.IsList b its2.toArray:=p2.isList.at λo e=>hk _ o e;have szl:=sizeLine_eq;have zl:(ks.zip its2).length<=100000:=by rw[uA];omega
   refine qBK (s:={ s1 with heap:=g }) (knd:=qb X.prog X.w) (I.ok.hd hc) (ks.zip its2) (zipApart_new a1 a2) hz hTI hTO hi1 hi2 E1 E2 lf (by omega) λg3 tk hd3 k3=>?_;have hge:s1.heap.objs.size<=g.objs.size:=by rw[sz];omega
   have kp:∀c o,s1.heap.get? c=some o->g3.get? c=some o:=λc o e=>by
    have lt:=Heap.lt_size e;refine k3 c o ?_ (hk c o e);simp only[wJ,wR,or_false,not_or];exact⟨g6 lt (vc _ _),g6 lt (vc _ _),g6 lt (wM _),g6 lt (vc _ _)⟩
   have big:=I1.big;have kv':KV (QA [] (ks.zip ys)) (merged [] (ks.zip its2)):=KV.merge kv .nil;refine⟨.ref g.objs.size,_,I1.laid (t':=tk) kp hge (_L.dk_new ?_ ?_ kv' hd3),rfl,q _ (I1.hok.fresh hge)⟩
   ·have:=_L.length_mergeK (ks.zip ys) [];have z2:(ks.zip ys).length<=100000:=by rw[uA];omega
    simp at this;omega
   ·rw[beq_eq_false_iff_ne];exact Ne.symm (g6 big hge)
theorem K0:∀(more kvs:List (Int×V)),QA (kvs.map kk) (more.map kk)=(zA kvs more).map kk
 | [],kvs=>rfl
 |p::r,kvs=>by
  show QA (_L.putK (kvs.map kk) (Sum.inl p.1:Key) p.2) (r.map kk)=(zA (QF kvs p.1 p.2) r).map kk;rw[S8,K0 r]
theorem qAW:∀(is:List Int) (ys:List V),((is.map λi=>(Sum.inl i:Key)).zip ys)=(is.zip ys).map kk
 | [],_=>rfl
 |_::_,[]=>rfl
 |i::is,y::ys=>by
  rw[List.map_cons,List.zip_cons_cons,qAW is ys,List.zip_cons_cons,List.map_cons];rfl
theorem qCJ(is:List Int):(is.map λi=>(Sum.inl i:Key)).map kV=is.map V.int:=by rw[vI];rfl
end
section
variable{X:Cx}{G:List Addr}{F:Nat->List V->AH->RV}{a b:E}{ea eb:Expr}{pos:Pos}
theorem qBp{p p2 pos2:Pos}(hc:X.calm=true)(hg:_L.Gl X "dict")(hm:X.mg "dict"=none)(hg2:_L.Gl X "zip")(hm2:X.mg "zip"=none)(hn:qY ea=true)(hn2:qY eb=true)(ha:SE X G F ea a)(hb:SE X G F eb b):
  SE X G F (.Call (.Name "dict" p) [.Call (.Name "zip" p2) [ea,eb] [] pos2] [] pos) (.dzip a b):=by
 refine qp (M0 hc hg hm hg2 hm2 (_L.pa_cons ha (_L.pa_cons hb _L.pa_nil (qI hn2)) (qI hn)) hn hn2) λσc H Q q=>?_;obtain⟨φ,h,σ,v,h',R,rs,e,k⟩:=q;unfold ev at e;obtain⟨⟨x,h1⟩,e1,e⟩:=tK e;obtain⟨⟨y,h2⟩,e2,e3⟩:=tK e;clear e;obtain⟨i,ei,e4⟩:=qq e3;clear e3;obtain⟨j,ej,e⟩:=qq e4;clear e4;subst ei ej;refine jq R rs e1 e2 λφ2 H2 xc yc x2 R2 r1 r2=>?_;split at e
 ·rename_i xs ex;split at e
  ·rename_i ys ey;split at e
   ·rename_i is ei;split at e
    ·rename_i hc;cases e;obtain⟨a',zs,hq,hs,rz⟩:=R2.lst ex;obtain⟨b',ws,hq',hs',rz'⟩:=R2.lst ey;obtain⟨a2,rfl,ha2⟩:=qL r1;obtain⟨b2,rfl,hb2⟩:=qL r2;rw[hq]at ha2;cases ha2;rw[hq']at hb2;cases hb2;have ez:zs=is.map V.int:=by
      rw[<-zo ei];exact zR (by rw[zo ei];simp[flat]) rz
     have ew:ws=ys:=zR hc.2 rz';subst ez ew;refine⟨_,_,is.map λi=>(Sum.inl i:Key),ws,rfl,by rw[qCJ];exact hs,hs',by rw[wK];exact hc.1,λp hp=>?_⟩;rw[qAW,show ([]:List (Key×V))=([]:List (Int×V)).map kk from rfl,K0];exact k (φ2++[p]) _ _ (x2.trans ⟨[p],rfl⟩) (R2.new hp (o:=.ob (.dct (zA [] (is.zip ws)))) ⟨_,qC,RK.mono ⟨[p],rfl⟩ (RK.merge (RK.zip is rz') .nil)⟩) R2.lastRef
    ·cases e
   ·cases e
  ·cases e
 ·cases e
end
def qFL(xs:Array Nat):Prop:=xs.toList.Pairwise (·<·)
structure qFU(t:SetTable)(b:Bool):Prop where
 rise:qFL t.place
 dum:t.dummies=#[]
 led:b=false->t.led=true
def SetG(P:Program)(w:World)(b:Bool)(h:Heap)(a:Addr)(S:Int->Bool)(n:Nat):Prop:=
 ∃o es ep t,h.get? a=some o/\o.ExactSet/\o.data=.set es ep t/\ElemsOf (intKind P w) es.toList/\(∀k,S k=true↔∃e∈es.toList,(intKind P w).is k e.2=true)/\es.size<scanBound/\t.fits es.size=true/\es.size=n/\qFU t b
section
variable{P:Program}{w:World}{A:Around}{E:Value->Shared->Prop}{s:Shared}{b:Bool}{a:Addr}{S:Int->Bool}{n:Nat}
theorem SetG.eq{h:Heap}{S':Int->Bool}{n':Nat}(g:SetG P w b h a S n)(e:∀k,S k=S' k)(en:n=n'):SetG P w b h a S' n':=by
 have:S=S':=funext e;subst this;subst en;exact g
end
section
variable{P:Program}{w:World}{A:Around}{E:Value->Shared->Prop}{s:Shared}{b:Bool}
theorem SetG.at{h h':Heap}{a:Addr}{S:Int->Bool}{n:Nat}(g:SetG P w b h a S n)(e:∀o,h.get? a=some o->h'.get? a=some o):SetG P w b h' a S n:=
 let ⟨o,es,ep,t,h1,r⟩:=g;⟨o,es,ep,t,e o h1,r⟩
end
def IterS(h:Heap)(I a:Addr)(first:Value)(i n ep:Nat):Prop:=
 ∃o,h.get? I=some o/\o.cls=.type "set_iterator"/\o.data=.fields #[first,.int i 0,.ref a,.int n 0,.int ep 0]
section
variable{P:Program}{w:World}{A:Around}{E:Value->Shared->Prop}{s:Shared}{I a:Addr}{first:Value}{i n ep:Nat}
theorem IterS.typeIs(x:IterS s.heap I a first i n ep):s.TypeIs (.ref I) "set_iterator":=let ⟨o,ho,hc,_⟩:=x;⟨o,ho,hc⟩
theorem IterS.at{h h':Heap}(x:IterS h I a first i n ep)(e:∀o,h.get? I=some o->h'.get? I=some o):IterS h' I a first i n ep:=let ⟨o,ho,r⟩:=x;⟨o,e _ ho,r⟩
end
theorem qCY{X:Cx}{pins:List (Addr×Obj)}{σ:_L.St}{H:Hp}{s:Shared}{h':Heap}{T:Addr}{xs:List V}{its:List Value}{ch:List Addr}{t':Nat}(I:Inv X pins σ H s)(hf:∀b∈ch,QJ X pins H b)
  (hT:s.heap.objs.size<=T) (k:∀b o,b∉ch->s.heap.get? b=some o->h'.get? b=some o) (hp:IsTup h' T its.toArray) (hv:Vals xs its) (hz:xs.length<=sizeLine) (hTc:T∉ch):
  Inv X pins σ (upd H T (.tup xs)) { s with heap:=h',toks:=t' }:=by
 have hn:H T=none:=I.hok.fresh hT;have neT:∀b o,s.heap.get? b=some o->b≠T:=λb o e=>wj (wG (Heap.lt_size e) hT);refine I.step (g':=s.gens) (d':=s.drawn) (ch:=ch) (λb hb=>⟨(hf b hb).2.2.2.1,(hf b hb).2.1,(hf b hb).2.2.2.2.1,(hf b hb).2.2.2.2.2⟩) (λb o _ _ hc e _=>k b o hc e) (λb o _ _ hc e _=>⟨o.slots,k b o hc e⟩)
  (λb o _ e n=>by rw[qE (neT b o e)];exact n) (λb o hc e=>⟨o,k b o hc e⟩) (λb ys e=>by rw[qE (_L.ne_of_none e hn)];exact e) (λb o u e=>by rw[qE (_L.ne_of_none e hn)];exact e)
  (λb ps e=>⟨#[],by rw[qE (_L.ne_of_none e hn),e];simp⟩) (λm hm=>?_) (λb u e=>?_) I.bare
 ·obtain⟨o,es,ep,ho,r⟩:=hm;exact⟨o,es,ep,k _ o (λz=>(hf _ z).2.1 rfl) ho,r⟩
 ·by_cases hb:b=T
  ·subst hb;rw[qC]at e;cases e;exact⟨hz,its,hv,hp⟩
  ·rw[qE hb]at e;have nc:∀c u,H c=some u->c∉ch:=λc u q z=>by rw[(hf c z).1]at q;cases q
   refine(I.hok b u e).stay (λc v hc q=>k c v ?_ q) (λc q=>by rw[qE (_L.ne_of_none q hn)];exact q) λc ys q=>by rw[qE (_L.ne_of_none q hn)];exact q
   rcases hc with z|z
   ·rw[z];exact nc b u e
   ·exact nc c _ z
abbrev Tu(h:Heap)(T:Addr)(vs:Array Value):Prop:=h.get? T=some { cls:=.type "tuple",data:=.seq vs }
structure Ap3(z ti to i1 i2 i3 a b c:Addr):Prop where
 nd:[z,ti,to,i1,i2,i3].Nodup
 l1:a∉[z,to,i1,i2,i3]
 l2:b∉[z,to,i1,i2,i3]
 l3:c∉[z,to,i1,i2,i3]
structure W3(h:Heap)(z ti to i1 i2 i3 a b c:Addr)(f0:Value)(k1 k2 k3:Nat)(xs ys us:Array Value)(p q r:Value):Prop where
 z:IsZip h z ti to f0
 ti:Tu h ti #[.ref i1,.ref i2,.ref i3]
 to:Tu h to #[p,q,r]
 n1:h.IsListIter i1 a k1
 n2:h.IsListIter i2 b k2
 n3:h.IsListIter i3 c k3
 e1:h.IsList a xs
 e2:h.IsList b ys
 e3:h.IsList c us
section
variable{P:Program}{w:World}{A:Around}{E:Value->Shared->Prop}{s:Shared}{z ti to i1 i2 i3 a b c:Addr}{f0:Value}{k1 k2 k3:Nat}{xs ys us:Array Value}{p q r:Value}
def Kp(z to i1 i2 i3:Addr)(h g:Heap):Prop:=g.objs.size=h.objs.size/\∀c o,c∉[z,to,i1,i2,i3]->h.get? c=some o->g.get? c=some o
theorem Kp.step{h g g':Heap}{d:Addr}(k:Kp z to i1 i2 i3 h g)(hd:d∈[z,to,i1,i2,i3])(e:Heap.SameBut d g g'):Kp z to i1 i2 i3 h g':=
 ⟨by rw[e.1,k.1],λc o hc ho=>e.extBut c o (λx=>hc (x ▸ hd)) (k.2 c o hc ho)⟩
theorem W3.setZ{h g:Heap}(D:Ap3 z ti to i1 i2 i3 a b c)(S:W3 h z ti to i1 i2 i3 a b c f0 k1 k2 k3 xs ys us p q r){f1:Value}(hz:IsZip g z ti to f1)(e:Heap.SameBut z h g):W3 g z ti to i1 i2 i3 a b c f1 k1 k2 k3 xs ys us p q r:=by
 have d:=D.nd;have d1:=D.l1;have d2:=D.l2;have d3:=D.l3;simp only[wf,wJ,wR,or_false,not_or]at d d1 d2 d3;exact⟨hz,e.extBut _ _ (Ne.symm d.1.1) S.ti,e.extBut _ _ (Ne.symm d.1.2.1) S.to,S.n1.extBut e.extBut (Ne.symm d.1.2.2.1),S.n2.extBut e.extBut (Ne.symm d.1.2.2.2.1),S.n3.extBut e.extBut (Ne.symm d.1.2.2.2.2),S.e1.extBut e.extBut d1.1,S.e2.extBut e.extBut d2.1,S.e3.extBut e.extBut d3.1⟩
end
noncomputable def Ite(K:PySem.W.Frag)(a:Addr):It:=
 ⟨λi H=>∃xs x,SqL K H a xs/\xs[i]?=some x,
  λi H v H'=>∃p x,H p=none/\v=.ref p/\H'=upd H p (.tup [.int (i:Int),x])/\∀xs,SqL K H a xs->xs[i]?=some x,
  λi H=>∃xs,SqL K H a xs/\xs.length<=i⟩
theorem i4{P:Program}{w:World}{K:PySem.W.Frag}{elts:List Expr}{kk:Nat}{tpos:Pos}(e it a:Addr)(hei:e≠it):
  ZL P w K (.Tuple elts kk tpos) (Ite K a) [e,it] e (λi h=>(∃old,IsEnum h e it i old)/\h.IsListIter it a i) where
 mem:=by simp
 obj:=λi h st c hc=>by
  obtain⟨⟨old,h1⟩,⟨o4,e4,c4,d4⟩⟩:=st;simp only[wJ,wR,or_false]at hc;rcases hc with rfl|rfl
  ·exact⟨_,h1,λv q=>by have q':Data.fields _=Data.cell v:=q;cases q'⟩
  ·exact⟨o4,e4,λv q=>by rw[d4]at q;cases q⟩
 keep:=λi h h' st k=>by
  obtain⟨⟨old,h1⟩,h4⟩:=st;exact⟨⟨old,k e (by simp) _ h1⟩,h4.at λo x=>k it (by simp) o x⟩
 item:=by
  intro X hP hw hK hc i pins s σ H E I hf st hg;subst hP hw hK;obtain⟨xs,x,hq1,hx⟩:=hg;obtain⟨its1,rv1,p1,_⟩:=I.list hq1;obtain⟨u,hu,ru⟩:=rv1.get hx;obtain⟨⟨old,h1⟩,h4⟩:=st;refine wpAny_pyNext_enum_item h1 h4 p1.isList (x:=u) (by simpa using hu) hei λh' z1 z3 z5 z6 z7=>?_;refine⟨_,rfl,wpAny_letOwnedTupleGo_enum z1 λh'' g1 gs=>?_⟩;have lt:∀c∈[e,it],c≠s.heap.objs.size:=λc hc=>by
   have ex:∃o,s.heap.get? c=some o:=by
    simp only[wJ,wR,or_false]at hc;rcases hc with rfl|rfl
    ·exact⟨_,h1⟩
    ·obtain⟨o,e,_⟩:=h4;exact⟨o,e⟩
   obtain⟨o,e⟩:=ex;exact wj (Heap.lt_size e)
  have up:∀c o,c≠e->h'.get? c=some o->h''.get? c=some o:=λc o hz q=>gs.extBut c o hz q;have kp:∀c o,c∉[e,it]->s.heap.get? c=some o->h''.get? c=some o:=λc o hn q=>by
   simp only[wJ,wR,or_false,not_or]at hn;exact up c o hn.1 (z7 c o hn.1 hn.2 q)
  have ht:IsTup h'' s.heap.objs.size #[.int i s.toks,u]:=⟨_,up _ _ (Ne.symm (lt e (by simp))) z5,rfl,_,rfl⟩
  have I1:=qCY (t':=s.toks+1) (xs:=[.int (i:Int),x]) (its:=[.int i s.toks,u]) I hf (wM _) kp ht (.cons ⟨_,rfl⟩ (.cons ru .nil)) (by show 2<=sizeLine;decide) (λq=>lt _ q rfl);refine⟨.ref s.heap.objs.size,_,I1,rfl,⟨s.heap.objs.size,x,I.hok.fresh (wM _),rfl,rfl,λzs hz=>by rw[I.list_inj hz hq1];exact hx⟩,
   ⟨⟨_,by simpa using g1⟩,z3.at λo q=>up _ o (Ne.symm hei) q⟩,λc hc=>?_⟩
  rw[qE (lt c hc)];exact(hf c hc).1
 done:=by
  intro X hP hw hK hc i pins s σ H E I hf st hg;subst hP hw hK;obtain⟨xs,hq1,hl⟩:=hg;obtain⟨its1,rv1,p1,_⟩:=I.list hq1;obtain⟨⟨old,h1⟩,h4⟩:=st;have n1:=rv1.length;obtain⟨f0,f1,f2,f3,f4,f5⟩:=hf it (by simp);exact wpAny_pyNext_enum_end (I.ok.hd hc) h1 h4 p1.isList (by simp;omega) λh' eb=>⟨rfl,I.turned (t':=s.toks) (λb o hb q=>eb b o hb q) f0 f1 f3 f4 f5⟩
 self:=λ_ i s Q E st hQ=>by
  obtain⟨⟨old,h1⟩,h4⟩:=st;exact wpAny_pyIter_enum h1 hQ
noncomputable def qFc(K:PySem.W.Frag)(ta:TA):_L.TI:=λσ H R=>ta σ H λvs H1=>∃a,vs=[.ref a]/\(∃xs,SqL K H1 a xs)/\R (Ite K a) H1
theorem qB4{X:Cx}{ea:Expr}{ta:TA}{p pos tpos:Pos}{elts:List Expr}{kk:Nat}(hg:_L.Gl X "enumerate")(hm:X.mg "enumerate"=none)(ha:PA X [ea] ta)(h1:qY ea=true):
  _L._P X (.Tuple elts kk tpos) (.Call (.Name "enumerate" p) [ea] [] pos) (qFc X.K ta):=by
 intro pins s σ H R I h;refine Call_ (_L.ld_blt I hg hm PyProof.Rows.boot_enumerate (PyProof.Rows.callWith_type1 (_L.thn (ha pos pins s σ H _ I h) λus s1 ⟨vs,H1,I1,r1,q1⟩=>?_) (qI h1) (jI (by simp))));obtain⟨a,e,⟨xs,hq1⟩,q⟩:=q1;subst e;cases r1 with
 |cons r rr=>
  cases rr;cases r;obtain⟨its1,rv1,p1,_⟩:=I1.list hq1;refine call_enumerate_list p1.isList λh' he hi hsz hk=>?_;refine wpAny_pyIter_enum he ?_;have I2:Inv X pins σ H1 { s1 with heap:=h' }:=I1.kept (t':=s1.toks) hk;refine⟨_,_,_,_,H1,rfl,I2,i4 _ _ a (Nat.succ_ne_self _),⟨⟨_,he⟩,hi⟩,λc hc=>?_,q⟩;have hge:s1.heap.objs.size<=c:=by
   simp only[wJ,wR,or_false]at hc;rcases hc with rfl|rfl
   ·exact vc _ 1
   ·exact wM _
  exact I1.fpOk hge (I1.hok.fresh hge)
open _L (PGs TG TGs Itl Itt N8)
section
variable (K:PySem.W.Frag)(G:List Addr)
noncomputable def tG(g:Tg):TG:=λv σc H Q=>∃φ h σ w σ',Rl K G φ h H/\rst φ σ σc/\rv φ w v/\store g w σ h=some σ'/\∀σc',rst φ σ' σc'->Q σc' H
noncomputable def tGs(is:List Nat):TGs:=λvs σc H Q=>∃φ σ ws σ',rst φ σ σc/\rvs φ ws vs/\ZI is ws σ=some σ'/\∀σc',rst φ σ' σc'->Q σc' H
end
section
variable{X:Cx}{G:List Addr}{F:Nat->List V->AH->RV}
theorem qDJ{e:Expr}{t t':TG}(h:PG X e t)(w:∀v σ H Q,t' v σ H Q->t v σ H Q):PG X e t':=λpins s σ H v u Q I r q=>h pins s σ H v u Q I r (w v σ H Q q)
theorem qBA{e:List Expr}{t t':TGs}(h:PGs X e t)(w:∀v σ H Q,t' v σ H Q->t v σ H Q):PGs X e t':=λpins s σ H v u Q I r q=>h pins s σ H v u Q I r (w v σ H Q q)
variable (X G) in
abbrev SG(e:Expr)(g:Tg):Prop:=PG X e (tG X.K G g)
theorem Q9{i:Nat}{x:Str}{pos:Pos}(hN:X.N.Nodup)(hi:X.N[i]?=some x)(hx:_L.Loc X.env.scope x)(hf:X.fn x=true\/X.env.scope.names.lookup x=some .local):SG X G (.Name x pos) (.name i):=by
 refine qDJ (_L.pg_name hN hi hx hf) λv σc H Q q=>?_;obtain⟨φ,h,σ,w,σ',R,rs,r,e,k⟩:=q;unfold store at e;cases e;exact k _ (zm (R:=ropt φ) (show ropt φ (some w) (some v) from⟨v,rfl,r⟩) i rs)
theorem qCa:PGs X [] (tGs []):=by
 refine qBA _L.pgs_nil λvs σc H Q q=>?_;obtain⟨φ,σ,ws,σ',rs,r,e,k⟩:=q;cases ws with
 |nil=>
  cases r;cases e;exact⟨rfl,k _ rs⟩
 |cons _ _=>cases e
theorem qAL{i:Nat}{is:List Nat}{x:Str}{pos:Pos}{es:List Expr}(hN:X.N.Nodup)(hi:X.N[i]?=some x)(hx:_L.Loc X.env.scope x)(hf:X.fn x=true\/X.env.scope.names.lookup x=some .local)(hs:PGs X es (tGs is)):
  PGs X (.Name x pos::es) (tGs (i::is)):=by
 refine qBA (_L.pgs_cons (_L.pg_name hN hi hx hf) hs rfl) λvs σc H Q q=>?_;obtain⟨φ,σ,ws,σ',rs,r,e,k⟩:=q;cases ws with
 |nil=>cases e
 |cons w ws=>
  cases r with
  |cons r1 rr=>exact⟨_,_,rfl,φ,_,ws,σ',zm (R:=ropt φ) (show ropt φ (some w) (some _) from⟨_,rfl,r1⟩) i rs,rr,e,k⟩
theorem ZA:∀{is:List Nat}{xs:List V}{σ σ':St},ZI is xs σ=some σ'->xs.length=is.length
 | [],[],_,_,_=>rfl
 | [],_::_,_,_,e=>by cases e
 |_::_,[],_,_,e=>by cases e
 |i::is,x::xs,σ,σ',e=>by
  have:=ZA (show ZI is xs _=some σ' from e);simp[this]
theorem qDt{is:List Nat}{es:List Expr}{k:Nat}{pos:Pos}(hc:X.calm=true)(h:PGs X es (tGs is))(hn:(assignEach es X.env).length=is.length)(hst:(assignEach es X.env).findIdx? (·.1)=none):SG X G (.Tuple es k pos) (.tup is):=by
 refine qDJ (_L.pg_tup hc h hn hst) λv σc H Q q=>?_;obtain⟨φ,h,σ,w,σ',R,rs,r,e,k⟩:=q;cases w with
 |ref a=>
  unfold store at e;dsimp only at e;split at e
  ·rename_i xs ex;obtain⟨p,zs,hp,hs,rz⟩:=R.tup ex;obtain⟨q,rfl,hq⟩:=qL r;rw[hp]at hq;cases hq;exact⟨_,zs,rfl,hs,by rw[<-Paired.length rz];exact ZA e,φ,σ,xs,σ',rs,rz,e,k⟩
  ·cases e
 |_=>cases e
def IsJ(K:PySem.W.Frag)(φ:List Addr):Src->It->Prop
 | .list p,J=>∃a,φ[p]?=some a/\J=Itl K a
 | .tupl p,J=>∃a,φ[p]?=some a/\J=Itt K a
 | .rng lo n,J=>J=_L.Itr lo n
 | .enum p,J=>∃a,φ[p]?=some a/\J=Ite K a
theorem IsJ.mono{K:PySem.W.Frag}{φ φ':List Addr}(x:Ext φ φ'):∀{s:Src}{J:It},IsJ K φ s J->IsJ K φ' s J
 | .list _,_,⟨a,h,e⟩=>⟨a,x.get h,e⟩
 | .tupl _,_,⟨a,h,e⟩=>⟨a,x.get h,e⟩
 | .rng _ _,_,e=>e
 | .enum _,_,⟨a,h,e⟩=>⟨a,x.get h,e⟩
section
variable{K:PySem.W.Frag}{φ:List Addr}{h h1:AH}{H H':Hp}{s:Src}{J:It}{i:Nat}{x v:V}
theorem IsJ.stop(j:IsJ K φ s J)(R:Rl K G φ h H)(e:jF h i s=true):J.stop i H:=by
 cases s with
 |list p=>
  obtain⟨a,ha,rfl⟩:=j;unfold jF at e;dsimp only at e;split at e
  ·rename_i xs ex;obtain⟨q,zs,hq,hs,rz⟩:=R.lst ex;rw[ha]at hq;cases hq;exact⟨zs,hs,by rw[<-Paired.length rz];exact uK e⟩
  ·cases e
 |tupl p=>
  obtain⟨a,ha,rfl⟩:=j;unfold jF at e;dsimp only at e;split at e
  ·rename_i xs ex;obtain⟨q,zs,hq,hs,rz⟩:=R.tup ex;rw[ha]at hq;cases hq;exact⟨zs,hs,by rw[<-Paired.length rz];exact uK e⟩
  ·cases e
 |rng lo n=>
  cases j;show n<=i;exact uK e
 |enum p=>
  obtain⟨a,ha,rfl⟩:=j;unfold jF at e;dsimp only at e;split at e
  ·rename_i xs ex;obtain⟨q,zs,hq,hs,rz⟩:=R.lst ex;rw[ha]at hq;cases hq;exact⟨zs,hs,by rw[<-Paired.length rz];exact uK e⟩
  ·cases e
theorem IsJ.go(j:IsJ K φ s J)(R:Rl K G φ h H)(e:qi h i s=some (x,h1)):J.go i H:=by
 cases s with
 |list p=>
  obtain⟨a,ha,rfl⟩:=j;unfold qi at e;dsimp only at e;split at e
  ·rename_i xs ex;obtain⟨y,ey,e2⟩:=wA.mp e;obtain⟨q,zs,hq,hs,rz⟩:=R.lst ex;rw[ha]at hq;cases hq;obtain⟨z,hz,_⟩:=qT rz ey;exact⟨zs,z,hs,hz⟩
  ·cases e
 |tupl p=>
  obtain⟨a,ha,rfl⟩:=j;unfold qi at e;dsimp only at e;split at e
  ·rename_i xs ex;obtain⟨y,ey,e2⟩:=wA.mp e;obtain⟨q,zs,hq,hs,rz⟩:=R.tup ex;rw[ha]at hq;cases hq;obtain⟨z,hz,_⟩:=qT rz ey;exact⟨zs,z,hs,hz⟩
  ·cases e
 |rng lo n=>
  cases j;unfold qi at e;dsimp only at e;split at e
  ·rename_i hl;exact hl
  ·cases e
 |enum p=>
  obtain⟨a,ha,rfl⟩:=j;unfold qi at e;dsimp only at e;split at e
  ·rename_i xs ex;obtain⟨y,ey,e2⟩:=wA.mp e;obtain⟨q,zs,hq,hs,rz⟩:=R.lst ex;rw[ha]at hq;cases hq;obtain⟨z,hz,_⟩:=qT rz ey;exact⟨zs,z,hs,hz⟩
  ·cases e
theorem IsJ.yld(j:IsJ K φ s J)(R:Rl K G φ h H)(e:qi h i s=some (x,h1))(y:J.yld i H v H'):∃φ',Ext φ φ'/\Rl K G φ' h1 H'/\rv φ' x v:=by
 cases s with
 |list p=>
  obtain⟨a,ha,rfl⟩:=j;unfold qi at e;dsimp only at e;split at e
  ·rename_i xs ex;obtain⟨y',ey,e2⟩:=wA.mp e;cases e2;obtain⟨q,zs,hq,hs,rz⟩:=R.lst ex;rw[ha]at hq;cases hq;obtain⟨z,hz,rz'⟩:=qT rz ey;obtain⟨rfl,k⟩:=y;have:=k zs hs;rw[hz]at this;cases this;exact⟨φ,.refl _,R,rz'⟩
  ·cases e
 |tupl p=>
  obtain⟨a,ha,rfl⟩:=j;unfold qi at e;dsimp only at e;split at e
  ·rename_i xs ex;obtain⟨y',ey,e2⟩:=wA.mp e;cases e2;obtain⟨q,zs,hq,hs,rz⟩:=R.tup ex;rw[ha]at hq;cases hq;obtain⟨z,hz,rz'⟩:=qT rz ey;obtain⟨rfl,k⟩:=y;have:=k zs hs;rw[hz]at this;cases this;exact⟨φ,.refl _,R,rz'⟩
  ·cases e
 |rng lo n=>
  cases j;unfold qi at e;dsimp only at e;split at e
  ·cases e;obtain⟨rfl,rfl⟩:=y;exact⟨φ,.refl _,R,rfl⟩
  ·cases e
 |enum p=>
  obtain⟨a,ha,rfl⟩:=j;unfold qi at e;dsimp only at e;split at e
  ·rename_i xs ex;obtain⟨y',ey,e2⟩:=wA.mp e;cases e2;obtain⟨q,zs,hq,hs,rz⟩:=R.lst ex;rw[ha]at hq;cases hq;obtain⟨z,hz,r1⟩:=qT rz ey;obtain⟨p',x',hn,rfl,rfl,k⟩:=y;have:=k zs hs;rw[hz]at this;cases this;exact⟨φ++[p'],⟨[p'],rfl⟩,R.newT hn (.cons rfl (.cons r1 .nil)),R.lastRef⟩
  ·cases e
end
variable (G F) in
noncomputable def tI(K:PySem.W.Frag)(it:Itr):_L.TI:=λσc H R=>∃φ h σ s h',Rl K G φ h H/\rst φ σ σc/\evi F it σ h=.ok (s,h')/\∀φ' H' J,Ext φ φ'->Rl K G φ' h' H'->IsJ K φ' s J->R J H'
variable (X G F) in
abbrev SI(tg iter:Expr)(it:Itr):Prop:=_L._P X tg iter (tI G F X.K it)
theorem qBf{tg e:Expr}{t t':_L.TI}(h:_L._P X tg e t)(w:∀σ H Q,t' σ H Q->t σ H Q):_L._P X tg e t':=λpins s σ H Q I q=>h pins s σ H Q I (w σ H Q q)
variable{a b:E}{ea eb tg:Expr}{pos p:Pos}
noncomputable def qH1(K:PySem.W.Frag)(tl:TE):_L.TI:=λσ H R=>tl σ H λx H1=>∃a,x=.ref a/\(((∃xs,SqL K H1 a xs)/\R (Itl K a) H1)\/((∃xs,SqT K H1 a xs)/\R (Itt K a) H1))
theorem qEF{l:Expr}{tl:TE}(hl:PE X l tl):_L._P X tg l (qH1 X.K tl):=by
 intro pins s σ H R I h;refine _L.thn (hl pins s σ H _ I h) λv s1 ⟨x,H1,I1,r1,q1⟩=>?_;obtain⟨a,e,q⟩:=q1;subst e;cases r1;rcases q with⟨⟨xs,hq⟩,q⟩|⟨⟨xs,hq⟩,q⟩
 ·obtain⟨its,rv,p,hz⟩:=I1.list hq;refine wpAny_pyIter_list p.isList ?_;refine⟨s1.heap.objs.size,[s1.heap.objs.size],_,_,H1,rfl,I1.kept (t':=s1.toks) λb o e=>Heap.get?_push_of_some _ e,_L.turn_list a _,⟨_,Heap.get?_push_size _ rfl,rfl,rfl⟩,λb hb=>?_,q⟩;have e:b=s1.heap.objs.size:=by simpa using hb
  subst e;exact I1.fpOk (wM _) (I1.hok.fresh (wM _))
 ·obtain⟨its,rv,p,hz⟩:=I1.tuple hq;refine wpAny_pyIter_tuple (show s1.heap.IsTuple a its.toArray from p) ?_;refine⟨s1.heap.objs.size,[s1.heap.objs.size],_,_,H1,rfl,I1.kept (t':=s1.toks) λb o e=>Heap.get?_push_of_some _ e,_L.turn_tuple a _,⟨_,Heap.get?_push_size _ rfl,rfl,rfl⟩,λb hb=>?_,q⟩;have e:b=s1.heap.objs.size:=by simpa using hb
  subst e;exact I1.fpOk (wM _) (I1.hok.fresh (wM _))
theorem V0(ha:SE X G F ea a):SI X G F tg ea (.list a):=by
 refine qBf (qEF ha) λσc H Q q=>?_;obtain⟨φ,h,σ,s,h',R,rs,e,k⟩:=q;unfold evi at e;obtain⟨⟨x,h1⟩,e1,e⟩:=tK e;refine⟨φ,h,σ,x,h1,R,rs,e1,λφ1 H1 w x1 R1 r1=>?_⟩;cases x with
 |ref p=>
  dsimp only at e;cases ey:h1[p]? with
  |none=>rw[ey]at e;cases e
  |some o=>
   cases o with
   |lst fz ys=>
    rw[ey]at e;cases e;obtain⟨q,zs,hq,hs,rz⟩:=R1.lst (i:=p) (xs:=ys) (by unfold qO;rw[ey]);obtain⟨q',rfl,hq'⟩:=qL r1;rw[hq]at hq';cases hq';exact⟨_,rfl,.inl ⟨⟨zs,hs⟩,k φ1 H1 _ x1 R1 ⟨_,hq,rfl⟩⟩⟩
   |tup ys=>
    rw[ey]at e;cases e;obtain⟨q,zs,hq,hs,rz⟩:=R1.tup (i:=p) (xs:=ys) (by unfold qX;rw[ey]);obtain⟨q',rfl,hq'⟩:=qL r1;rw[hq]at hq';cases hq';exact⟨_,rfl,.inr ⟨⟨zs,hs⟩,k φ1 H1 _ x1 R1 ⟨_,hq,rfl⟩⟩⟩
   |ob ks=>rw[ey]at e;cases e
 |_=>cases e
theorem qCK(hg:_L.Gl X "range")(hm:X.mg "range"=none)(hn:qY ea=true)(ha:SE X G F ea a):SI X G F tg (.Call (.Name "range" p) [ea] [] pos) (.rng1 a):=by
 refine qBf (_L.pi_range1 hg hm (_L.pa_cons ha _L.pa_nil (qI hn)) (qI hn)) λσc H Q q=>?_;obtain⟨φ,h,σ,s,h',R,rs,e,k⟩:=q;unfold evi at e;obtain⟨⟨x,h1⟩,e1,e⟩:=tK e;refine⟨φ,h,σ,x,h1,R,rs,e1,λφ1 H1 w x1 R1 r1=>?_⟩;cases x with
 |int j=>
  dsimp only at e;split at e
  ·rename_i hj;cases e;cases qD r1;exact⟨j,rfl,by omega,by omega,k φ1 H1 _ x1 R1 rfl⟩
  ·cases e
 |_=>cases e
theorem qCT{elts:List Expr}{kk:Nat}{tpos:Pos}(hg:_L.Gl X "enumerate")(hm:X.mg "enumerate"=none)(hn:qY ea=true)(ha:SE X G F ea a):
  SI X G F (.Tuple elts kk tpos) (.Call (.Name "enumerate" p) [ea] [] pos) (.enum a):=by
 refine qBf (qB4 hg hm (_L.pa_cons ha _L.pa_nil (qI hn)) hn) λσc H Q q=>?_;obtain⟨φ,h,σ,s,h',R,rs,e,k⟩:=q;unfold evi at e;obtain⟨⟨x,h1⟩,e1,e⟩:=tK e;refine⟨φ,h,σ,x,h1,R,rs,e1,λφ1 H1 w x1 R1 r1=>?_⟩;cases x with
 |ref p=>
  dsimp only at e;split at e
  ·rename_i xs ex;cases e;obtain⟨q,zs,hq,hs,rz⟩:=R1.lst ex;obtain⟨q',rfl,hq'⟩:=qL r1;rw[hq]at hq';cases hq';exact⟨_,rfl,⟨zs,hs⟩,k φ1 H1 _ x1 R1 ⟨_,hq,rfl⟩⟩
  ·cases e
 |_=>cases e
end
section
variable{X:Cx}{G:List Addr}{F:Nat->List V->AH->RV}
theorem qDS{φ:List Addr}:∀{v w w':V},rv φ v w->rv φ v w'->w=w'
 | .ref _,w,w',h,g=>by
  obtain⟨a,e1,h1⟩:=qL h;obtain⟨b,e2,g1⟩:=qL g;rw[h1]at g1;cases g1;rw[e1,e2]
 | .non,_,_,h,g=>by rw[zM h,zM g]
 | .bl _,_,_,h,g=>by rw[zS h,zS g]
 | .int _,_,_,h,g=>by rw[qD h,qD g]
 | .str _,_,_,h,g=>by rw[zd h,zd g]
 | .byt _,w,_,h,_=>by cases w<;>exact False.elim h
 | .flt _,w,_,h,_=>by cases w<;>exact False.elim h
 | .ty _,w,_,h,_=>by cases w<;>exact False.elim h
theorem B4{φ:List Addr}:∀{vs ws us:List V},rvs φ vs ws->rvs φ vs us->ws=us
 |_,_,_,.nil,.nil=>rfl
 |_,_,_,.cons r t,.cons r' t'=>by rw[qDS r r',B4 t t']
theorem Qi{φ:List Addr}{σ σc:St}(r:rst φ σ σc):∀src,rst φ (_L.inner src σ) (_L.inner src σc)
 | []=>.nil
 |none::src=>.cons trivial (Qi r src)
 |some j::src=>by
  refine .cons ?_ (Qi r src);show ropt φ (σ[j]?).join (σc[j]?).join;cases e:σ[j]? with
  |none=>exact trivial
  |some o=>
   cases o with
   |none=>exact trivial
   |some v=>
    obtain⟨oc,ec,r'⟩:=qT r e;obtain⟨w,rfl,r'⟩:=r';rw[ec];exact⟨w,rfl,r'⟩
variable (X G F) in
abbrev SC(ifs:List Expr)(c:Es):Prop:=_L.PTs X ifs (tB X.K G (evc F c))
theorem qC3:SC X G F [] .nil:=by
 intro pins s σ H Q I q;obtain⟨φ,h,σa,b,h',R,rs,e,k⟩:=q;unfold evc at e;cases e;exact _L.pts_nil pins s σ H Q I (k φ H (.refl _) R)
theorem qDH{c:Expr}{a:E}(hc:ST X G F c a):SC X G F [c] (.cons a .nil):=by
 intro pins s σ H Q I q;obtain⟨φ,h,σa,b,h',R,rs,e,k⟩:=q;unfold evc at e;exact _L.pts_one hc pins s σ H Q I ⟨φ,h,σa,b,h',R,rs,e,k⟩
theorem W9{it:Itr}{src:List (Option Nat)}{g:Tg}{c:Es}{e:E}{σc:St}{H:Hp}{Q:VK}(q:tE X.K G F (.comp it src g c e) σc H Q):
  _L.tComp (tI G F X.K it) src (tG X.K G g) (tB X.K G (evc F c)) (tE X.K G F e) σc H Q:=by
 obtain⟨φ,h,σ,v,h',R,rs,ee,k⟩:=q;unfold ev at ee;obtain⟨⟨s,h1⟩,e1,ee⟩:=tK ee;refine⟨φ,h,σ,s,h1,R,rs,e1,λφ1 H1 J x1 R1 j1=>?_⟩;dsimp only at ee;split at ee
 ·rename_i n hn;intro D hD;have R2:Rl X.K G (φ1++[D]) (h1++[.lst false []]) (upd H1 D (.lst [])):=R1.newL hD .nil;have hDφ:(φ1++[D])[h1.length]?=some D:=R1.lastRef;refine⟨λi m ys σ' H'=>∃φ' h2 σa ya,Ext (φ1++[D]) φ'/\Rl X.K G φ' h2 H'/\rst φ' σa σ'/\rvs φ' ya ys/\h2[h1.length]?=some (.lst false ya)/\Jp s g (evc F c) (ev F e) h1.length m i ya σa h2=.ok (v,h'),
   ⟨n,φ1++[D],_,_,[],.refl _,R2,Qi (rst.mono (x1.trans ⟨[D],rfl⟩) rs) src,.nil,by simp,ee⟩,?_⟩
  rintro i m ys σ' H' ⟨φ',h2,σa,ya,x2,Ra,rsa,rya,hya,ec⟩ hys;have jj:IsJ X.K φ' s J:=j1.mono (Ext.trans ⟨[D],rfl⟩ x2);have hDφ':=x2.get hDφ;cases m with
  |zero=>
   unfold Jp at ec;split at ec
   ·rename_i hst;cases ec;exact .inl ⟨jj.stop Ra hst,k φ' H' _ ((x1.trans ⟨[D],rfl⟩).trans x2) Ra hDφ'⟩
   ·cases ec
  |succ m=>
   unfold Jp at ec;split at ec
   ·rename_i x h3 hy;split at ec
    ·rename_i σ3 hst;refine .inr ⟨jj.go Ra hy,λxv H2 hyl=>?_⟩;obtain⟨φ3,x3,R3,rx⟩:=jj.yld Ra hy hyl;refine⟨φ3,h3,σa,x,σ3,R3,rst.mono x3 rsa,rx,hst,λσc3 rs3=>?_⟩;obtain⟨⟨t,h4⟩,e4,ec⟩:=tK ec;refine⟨φ3,h3,σ3,t,h4,R3,rs3,e4,λφ4 H4 x4 R4=>?_⟩;dsimp only at ec;cases t with
     |true=>
      rw[if_pos rfl]at ec ⊢;obtain⟨⟨y,h5⟩,e5,ec⟩:=tK ec;refine⟨φ4,h4,σ3,y,h5,R4,rst.mono x4 rs3,e5,λφ5 H5 yc x5 R5 r5=>?_⟩;dsimp only at ec;split at ec
      ·rename_i hc5;have xx:Ext φ' φ5:=x3.trans (x4.trans x5);have hD5:=xx.get hDφ';obtain⟨zs,hz,rz⟩:=R5.obj _ _ D hc5.1 hD5;have ez:zs=ys:=B4 rz (rvs.mono xx rya);subst ez;refine⟨hz,by rw[<-Paired.length rz];exact wz hc5.2 qAQ,m,vp _,φ5,_,σ3,_,x2.trans xx,R5.set hc5.1 hD5 (qV rz (.cons r5 .nil)),rst.mono (x4.trans x5) rs3,qV rz (.cons r5 .nil),?_,ec⟩;rw[wb (wB.mp hc5.1).1]
      ·cases ec
     |false=>
      rw[if_neg (by decide)]at ec ⊢;split at ec
      ·rename_i hc4;have xx:Ext φ' φ4:=x3.trans x4;have hD4:=xx.get hDφ';obtain⟨zs,hz,rz⟩:=R4.obj _ _ D hc4 hD4;have ez:zs=ys:=B4 rz (rvs.mono xx rya);subst ez;exact⟨hz,m,vp _,φ4,_,σ3,_,x2.trans xx,R4,rst.mono x4 rs3,rz,hc4,ec⟩
      ·cases ec
    ·cases ec
   ·cases ec
 ·cases ee
end
section
variable{X:Cx}{G:List Addr}{F:Nat->List V->AH->RV}{a b c:E}{ea eb ec tg:Expr}{pos:Pos}
theorem S6{iter elt:Expr}{ifs:List Expr}{scope:Scope}{N:List Str}{it:Itr}{src:List (Option Nat)}{g:Tg}{cs:Es}{e:E}(hc:X.calm=true)(hi:SI X G F tg iter it)(S:_L.CompScope X scope N src)
  (hg:∀C fp s H,SG (_L.cxComp X scope C fp s H N) G tg g) (ht:∀C fp s H,SC (_L.cxComp X scope C fp s H N) G F ifs cs) (he:∀C fp s H,SE (_L.cxComp X scope C fp s H N) G F elt e)
  (hs:∀x,foldedSetIterable iter X.env x=pure x):SE X G F (.ListComp elt [⟨tg,iter,ifs,0⟩] scope pos) (.comp it src g cs e):=
 qp (_L.pe_comp hc hi S hg ht he hs) λ_ _ _=>W9
def Post(K:PySem.W.Frag)(G:List Addr)(D:N8)(φ:List Addr)(o:Out)(h':AH):Prop:=∀φ' H',Ext φ φ'->Rl K G φ' h' H'->match o with
 | .nx σ=>∀σc,rst φ' σ σc->D.nx σc H'
 | .rt v=>∀w,rv φ' v w->D.rt w H'
 | .bk σ=>∀σc,rst φ' σ σc->D.bk σc H'
 | .ct σ=>∀σc,rst φ' σ σc->D.ct σc H'
theorem Post.mono{K:PySem.W.Frag}{D:N8}{φ φ1:List Addr}{o:Out}{h':AH}(x:Ext φ φ1)(p:Post K G D φ o h'):Post K G D φ1 o h':=λφ' H' x' R=>p φ' H' (x.trans x') R
noncomputable def tS(K:PySem.W.Frag)(G:List Addr)(r:St->AH->RS):TS:=λD σc H=>∃φ h σ o h',Rl K G φ h H/\rst φ σ σc/\r σ h=.ok (o,h')/\Post K G D φ o h'
variable (X G F) in
abbrev SS(st:Stmt)(s:S):Prop:=PS X st (tS X.K G (ex F s))
variable (X G F) in
abbrev SSs(st:List Stmt)(s:Ss):Prop:=PSs X st (tS X.K G (exs F s))
theorem Qy{e:Stmt}{t t':TS}(h:PS X e t)(w:∀D σ H,t' D σ H->t D σ H):PS X e t':=λpins s σ H D I q=>h pins s σ H D I (w D σ H q)
theorem qBH{e:List Stmt}{t t':TS}(h:PSs X e t)(w:∀D σ H,t' D σ H->t D σ H):PSs X e t':=λpins s σ H D I q=>h pins s σ H D I (w D σ H q)
theorem qc{st:Stmt}:SS X G F st .stop:=by
 intro pins s σ H D I q;obtain⟨φ,h,σa,o,h',R,rs,e,k⟩:=q;unfold ex at e;cases e
noncomputable def Qg:Expr->Bool
 | .ListComp ..=>false
 | .SetComp ..=>false
 | .DictComp ..=>false
 |_=>true
noncomputable def qEB:Expr->Bool
 | .Tuple ..=>false
 |_=>true
theorem Qr{e:Expr}{t:Option Expr}{l:Nat}{env:Env}(h:Qg e=true):swapsWith e t l env=pure false:=by
 cases e<;>first|rfl|cases h
theorem ZB{e t:Expr}{l:Nat}{env:Env}(h:Qg e=true):swapsWithSole [t] e l env=pure false:=Qr h
theorem qBn{K:PySem.W.Frag}{σ:St}{H:Hp}{Q Q':VK}(q:tE K G F a σ H Q)(w:∀v H,Q v H->Q' v H):tE K G F a σ H Q':=by
 obtain⟨φ,h,σa,v,h',R,rs,e,k⟩:=q;exact⟨φ,h,σa,v,h',R,rs,e,λφ' H' u x' R' r'=>w u H' (k φ' H' u x' R' r')⟩
theorem D5{g:Tg}{D:N8}{σc:St}{H:Hp}(q:tS X.K G (ex F (.asg g a)) D σc H):_L.tAsg (tE X.K G F a) (tG X.K G g) D σc H:=by
 obtain⟨φ,h,σ,o,h',R,rs,e,k⟩:=q;unfold ex at e;obtain⟨⟨x,h1⟩,e1,e⟩:=tK e;dsimp only at e;split at e
 ·rename_i σ1 es;cases e;exact⟨φ,h,σ,x,_,R,rs,e1,λφ1 H1 w x1 R1 r1=>⟨φ1,_,σ,x,σ1,R1,rst.mono x1 rs,r1,es,λσc' rs'=>k φ1 H1 x1 R1 σc' rs'⟩⟩
 ·cases e
theorem qDG{is:List Nat}{es:List Expr}{kk:Nat}{p:Pos}(hg:SG X G (.Tuple es kk p) (.tup is))(ha:SE X G F ea a)(hc:Qg ea=true)(ht:qEB ea=true):
  SS X G F (.Assign [.Tuple es kk p] ea pos) (.asg (.tup is) a):=
 Qy (_L.ps_asg ha hg (ZB hc) (by cases ea<;>first|rfl|cases ht) rfl) λ_ _ _=>D5
theorem qCE{iter elt:Expr}{ifs:List Expr}{scope:Scope}{N:List Str}{it:Itr}{src:List (Option Nat)}{g:Tg}{cs:Es}{e:E}{i:Nat}{n:Str}{p cpos:Pos}(hc:X.calm=true)(hi:SI X G F tg iter it)(S:_L.CompScope X scope N src)
  (hg:∀C fp s H,SG (_L.cxComp X scope C fp s H N) G tg g) (ht:∀C fp s H,SC (_L.cxComp X scope C fp s H N) G F ifs cs) (he:∀C fp s H,SE (_L.cxComp X scope C fp s H N) G F elt e)
  (hs:∀x,foldedSetIterable iter X.env x=pure x) (hN:X.N.Nodup) (hn:X.N[i]?=some n) (hx:_L.Loc X.env.scope n) (hf:X.fn n=true\/X.env.scope.names.lookup n=some .local):
  SS X G F (.Assign [.Name n p] (.ListComp elt [⟨tg,iter,ifs,0⟩] scope cpos) pos) (.asg (.name i) (.comp it src g cs e)):=by
 have hsw:swapsWith (.ListComp elt [⟨tg,iter,ifs,0⟩] scope cpos) (some (.Name n p)) pos.line X.env=pure (X.env.blockKind==.function&&X.env.kindOf n==some .local&&p.line==(Expr.ListComp elt [⟨tg,iter,ifs,0⟩] scope cpos).pos.line
   && !(scope.names.any λ(m,k)=>m==n&&(k==.local||k==.cell))):=rfl
 generalize hb:(X.env.blockKind==.function&&X.env.kindOf n==some .local&&p.line==(Expr.ListComp elt [⟨tg,iter,ifs,0⟩] scope cpos).pos.line
   && !(scope.names.any λ(m,k)=>m==n&&(k==.local||k==.cell)))=bb at hsw
 cases bb with
 |true=>
  have hl:X.env.scope.names.lookup n=some .local:=by
   simp only[wE]at hb;have z:X.env.kindOf n=some .local:=by simpa using hb.1.1.2
   exact z
  refine Qy (_L.ps_setcomp (i:=i) (g:=tG X.K G g) (tc:=tB X.K G (evc F cs)) (te:=tE X.K G F e) hc hi S hg ht he hsw hN hn hl hs) λD σc H q=>?_;refine W9 (qBn (D5 q) λv H1 z=>?_);obtain⟨φ,h,σ,w,σ',R,rs,r,es,k⟩:=z;unfold store at es;cases es;exact k _ (zm (R:=ropt φ) (show ropt φ (some w) (some v) from⟨v,rfl,r⟩) i rs)
 |false=>exact Qy (_L.ps_asg (S6 hc hi S hg ht he hs) (Q9 hN hn hx hf) hsw rfl rfl) λ_ _ _=>D5
noncomputable def qE8:_L.TSet:=λo i v H Q=>_L.rSetL o i v H Q\/∃p H',o=.ref p/\_L.DPut H p i v H'/\Q H'
theorem qBi(hu:X.A.units+8<cLine):_L.PSet X qE8:=by
 intro pins s σ H o i v ov iv u Q I ro ri rv h;rcases h with h|⟨p,H',rfl,g,q⟩
 ·exact _L.set_list pins s σ H o i v ov iv u Q I ro ri rv h
 ·cases ro;exact _L.d_setItem (by omega) I g ri rv λs' I'=>⟨H',I',q⟩
theorem qDF(hu:X.A.units+8<cLine){eo ei:Expr}{o i:E}{p:Pos}(ho:SE X G F eo o)(hi:SE X G F ei i)(ha:SE X G F ea a)(hsl:jp ei=true):SS X G F (.Assign [.Subscript eo ei p] ea pos) (.put o i a):=by
 refine Qy (_L.ps_asg ha (_L.pg_sub ho hi (qBi hu) (λv=>by cases ei<;>first|rfl|cases hsl)) (by cases ea<;>rfl) (by cases ea<;>rfl) rfl) λD σc H q=>?_;obtain⟨φ,h,σ,out,h',R,rs,e,k⟩:=q;unfold ex at e;obtain⟨⟨x,h1⟩,e1,e⟩:=tK e;obtain⟨⟨p1,h2⟩,e2,e⟩:=tK e;obtain⟨⟨k1,h3⟩,e3,e⟩:=tK e;refine⟨φ,h,σ,x,h1,R,rs,e1,λφ1 H1 w x1 R1 r1=>?_⟩;refine⟨φ1,h1,σ,p1,h2,R1,rst.mono x1 rs,e2,λφ2 H2 w2 x2 R2 r2=>?_⟩;refine⟨φ2,h2,σ,k1,h3,R2,rst.mono (x1.trans x2) rs,e3,λφ3 H3 w3 x3 R3 r3=>?_⟩;cases p1 with
 |ref q=>
  cases k1 with
  |int j=>
   dsimp only at e;split at e
   ·rename_i xs ex1;split at e
    ·rename_i jj ej;cases e;obtain⟨q1,a',zs,ha',hH,rz⟩:=R3.mut ex1;obtain⟨a2,rfl,ha2⟩:=qL (rv.mono x3 r2);rw[ha']at ha2;cases ha2;cases qD r3;refine .inl ⟨_,zs,j,jj,rfl,rfl,hH,by rw[<-Paired.length rz];exact ej,?_⟩;have xx:Ext φ φ3:=x1.trans (x2.trans x3);exact k φ3 _ xx (R3.set q1 ha' (zm (rv.mono (x2.trans x3) r1) jj rz)) σc (rst.mono xx rs)
    ·cases e
   ·split at e
    ·rename_i kvs ed;split at e
     ·rename_i hf;cases e;obtain⟨a',ks2,ea,eh,hH,rk⟩:=R3.dct ed;obtain⟨a2,rfl,ha2⟩:=qL (rv.mono x3 r2);rw[ea]at ha2;cases ha2;cases qD r3;have hl:(ks2.map kk).length<sizeLine:=by rw[wK,rk.len];exact wG hf ZN
      have xx:Ext φ φ3:=x1.trans (x2.trans x3);refine .inr ⟨_,_,rfl,_L.DPut.k (k:=.inl j) hH hl,?_⟩;rw[S8];exact k φ3 _ xx (R3.write rfl rfl eh ea ⟨_,qC,rk.put (rv.mono (x2.trans x3) r1)⟩) σc (rst.mono xx rs)
     ·cases e
    ·cases e
  |_=>cases e
 |_=>cases e
theorem qBw(ha:SE X G F ea a)(hc:Qg ea=true):SS X G F (.Expr ea pos) (.expr a):=by
 refine Qy (_L.ps_expr ha (Qr hc)) λD σc H q=>?_;obtain⟨φ,h,σ,out,h',R,rs,e,k⟩:=q;unfold ex at e;obtain⟨⟨x,h1⟩,e1,e⟩:=tK e;cases e;exact⟨φ,h,σ,x,_,R,rs,e1,λφ1 H1 w x1 R1 r1=>k φ1 H1 x1 R1 σc (rst.mono x1 rs)⟩
theorem qCr(ha:SE X G F ea a):SS X G F (.Return (some ea) pos) (.ret a):=by
 refine Qy (_L.ps_ret ha) λD σc H q=>?_;obtain⟨φ,h,σ,out,h',R,rs,e,k⟩:=q;unfold ex at e;obtain⟨⟨x,h1⟩,e1,e⟩:=tK e;cases e;exact⟨φ,h,σ,x,_,R,rs,e1,λφ1 H1 w x1 R1 r1=>k φ1 H1 x1 R1 w r1⟩
theorem qBq:SSs X G F [] .nil:=by
 refine qBH _L.pss_nil λD σc H q=>?_;obtain⟨φ,h,σ,out,h',R,rs,e,k⟩:=q;unfold exs at e;cases e;exact k φ H (.refl _) R σc rs
theorem qAN{st:Stmt}{sts:List Stmt}{s:S}{ss:Ss}(h1:SS X G F st s)(h2:SSs X G F sts ss):SSs X G F (st::sts) (.cons s ss):=by
 refine qBH (_L.pss_cons h1 h2) λD σc H q=>?_;obtain⟨φ,h,σ,out,h',R,rs,e,k⟩:=q;unfold exs at e;obtain⟨⟨o,h1⟩,e1,e⟩:=tK e;refine⟨φ,h,σ,o,h1,R,rs,e1,λφ1 H1 x1 R1=>?_⟩;cases o with
 |nx σ1=>exact λσc1 rs1=>⟨φ1,h1,σ1,out,h',R1,rs1,e,k.mono x1⟩
 |rt v=>cases e;exact k φ1 H1 x1 R1
 |bk σ1=>cases e;exact k φ1 H1 x1 R1
 |ct σ1=>cases e;exact k φ1 H1 x1 R1
theorem qCp{t u:List Stmt}{st su:Ss}(hc:ST X G F ec c)(ht:SSs X G F t st)(hu:SSs X G F u su):SS X G F (.If ec t u pos) (.ifs c st su):=by
 refine Qy (_L.ps_if hc ht hu) λD σc H q=>?_;obtain⟨φ,h,σ,out,h',R,rs,e,k⟩:=q;unfold ex at e;obtain⟨⟨x,h1⟩,e1,e⟩:=tK e;refine⟨φ,h,σ,x,h1,R,rs,e1,λφ1 H1 x1 R1=>?_⟩;dsimp only at e;cases x with
 |true=>
  rw[if_pos rfl]at e ⊢;exact⟨φ1,h1,σ,out,h',R1,rst.mono x1 rs,e,k.mono x1⟩
 |false=>
  rw[if_neg (by decide)]at e ⊢;exact⟨φ1,h1,σ,out,h',R1,rst.mono x1 rs,e,k.mono x1⟩
theorem qEV{iter:Expr}{body:List Stmt}{it:Itr}{g:Tg}{sb:Ss}(hx:X.xe=λ_ _=>False)(hc:X.calm=true)(hi:SI X G F tg iter it)(hg:SG X G tg g)(hb:SSs X G F body sb)
  (hs:∀x,foldedSetIterable iter X.env x=pure x):SS X G F (.For tg iter body [] pos) (.for_ g it sb):=by
 refine Qy (_L.ps_for (by rw[hx];exact PassesOwn.never) hc hi hg hb hs) λD σc H q=>?_;obtain⟨φ,h,σ,out,h',R,rs,e,k⟩:=q;unfold ex at e;obtain⟨⟨s,h1⟩,e1,e⟩:=tK e;refine⟨φ,h,σ,s,h1,R,rs,e1,λφ1 H1 J x1 R1 j1=>?_⟩;dsimp only at e;split at e
 ·rename_i n hn;refine⟨λi m σ' H'=>∃φ' h2 σa,Ext φ1 φ'/\Rl X.K G φ' h2 H'/\rst φ' σa σ'/\Jr s g (exs F sb) m i σa h2=.ok (out,h'),⟨n,φ1,h1,σ,.refl _,R1,rst.mono x1 rs,e⟩,?_⟩;rintro i m σ' H' ⟨φ',h2,σa,x2,Ra,rsa,ef⟩;have jj:IsJ X.K φ' s J:=j1.mono x2;cases m with
  |zero=>
   unfold Jr at ef;split at ef
   ·rename_i hst;cases ef;exact .inl ⟨jj.stop Ra hst,k φ' H' (x1.trans x2) Ra σ' rsa⟩
   ·cases ef
  |succ m=>
   unfold Jr at ef;split at ef
   ·rename_i x h3 hy;split at ef
    ·rename_i σ3 hst;refine .inr ⟨jj.go Ra hy,λσ' H'=>∃φ' h2 σa,Ext φ1 φ'/\Rl X.K G φ' h2 H'/\rst φ' σa σ'/\Jr s g (exs F sb) m (i+1) σa h2=.ok (out,h'),λσ2 H2 w=>⟨m,vp _,w⟩,λxv H2 hyl=>?_⟩;obtain⟨φ3,x3,R3,rx⟩:=jj.yld Ra hy hyl;refine⟨φ3,h3,σa,x,σ3,R3,rst.mono x3 rsa,rx,hst,λσc3 rs3=>?_⟩;obtain⟨⟨o,h4⟩,e4,ef⟩:=tK ef;refine⟨φ3,h3,σ3,o,h4,R3,rs3,e4,λφ4 H4 x4 R4=>?_⟩;dsimp only at ef;cases o with
     |nx σ4=>exact λσc4 rs4=>⟨φ4,h4,σ4,x2.trans (x3.trans x4),R4,rs4,ef⟩
     |ct σ4=>exact λσc4 rs4=>⟨φ4,h4,σ4,x2.trans (x3.trans x4),R4,rs4,ef⟩
     |bk σ4=>cases ef;exact k φ4 H4 (x1.trans (x2.trans (x3.trans x4))) R4
     |rt v=>cases ef;exact k φ4 H4 (x1.trans (x2.trans (x3.trans x4))) R4
    ·cases ef
   ·cases ef
 ·cases e
end
end _P
namespace _L
open PySem PySem.Spec PyProof.Rows
noncomputable def withH(X:Cx)(a:Addr)(u:HO):Cx:={ X with H₀:=upd X.H₀ a u }
section
variable{X:Cx}{pins pins0:List (Addr×Obj)}{σ σ0:List (Option V)}{H H0:Hp}{s s0:Shared}{a:Addr}{o:Obj}{v:HO}{kvs:List (Key×V)}
theorem Inv.frNone(I:Inv X pins σ H s):∀b∈X.fs,H b=none:=λb hb=>by
 obtain⟨_,o,ho,_⟩:=I.ok.funs.mem hb;exact I.base.free b o ho (I.ok.frf b hb) λz=>I.ok.exfs b z hb
theorem Inv.enter(I:Inv X pins σ H s)(e:H a=some (.frz o v)):Inv (withH X a (.frz o v)) pins σ H s:=by
 have ne:∀{b:Addr},upd X.H₀ a (.frz o v) b=none->b≠a/\X.H₀ b=none:=λ{b} n=>by
  by_cases z:b=a
  ·subst z;rw[qC]at n;cases n
  ·exact⟨z,by rwa [qE z]at n⟩
 have K:=I.ok;refine⟨⟨K.mod,K.kind,K.glob,K.blt,K.above,K.inj,K.has,K.cab,K.hd,K.frames,K.stk,K.exf,λb o' q=>⟨(K.bs b o' q).1,?_⟩,K.bsz,K.noex,K.exfs,K.funs,λb hb=>?_⟩,I.os,I.bare,⟨λb o' q n=>I.base.keep b o' q (ne n).2,λb o' q n=>I.base.slot b o' q (ne n).2,λb o' q n=>I.base.free b o' q (ne n).2,I.base.there,λb xs q=>?_,λb o' u q=>?_,λb ps q=>?_⟩,I.loc,I.cell,I.free,I.freeC,I.pin,I.hok,I.len⟩
 ·have:b≠a:=λz=>by subst z;have:=(I.bs b o' q).2;rw[e]at this;cases this
  show upd X.H₀ a _ b=none;rw[qE this];exact(K.bs b o' q).2
 ·have:b≠a:=λz=>by subst z;have:=I.frNone b hb;rw[e]at this;cases this
  show upd X.H₀ a _ b=none;rw[qE this];exact K.frf b hb
 ·have q:upd X.H₀ a (.frz o v) b=some (.tup xs):=q;by_cases z:b=a
  ·subst z;rw[qC]at q;cases q
  ·rw[qE z]at q;exact I.base.tups b xs q
 ·have q:upd X.H₀ a (.frz o v) b=some (.frz o' u):=q;by_cases z:b=a
  ·subst z;rw[qC]at q;cases q;exact e
  ·rw[qE z]at q;exact I.base.frzs b o' u q
 ·have q:upd X.H₀ a (.frz o v) b=some (.tbl ps):=q;by_cases z:b=a
  ·subst z;rw[qC]at q;cases q
  ·rw[qE z]at q;exact I.base.tbls b ps q
theorem Inv.exit(I0:Inv X pins0 σ0 H0 s0)(e0:H0 a=some (.dK kvs))(I:Inv (withH X a (.frz o v)) pins σ H s):Inv X pins σ H s:=by
 have un:∀{b:Addr}{u:Option HO},X.H₀ b=u->b≠a->upd X.H₀ a (.frz o v) b=u:=λn z=>by rw[qE z];exact n
 have nx:∀{b:Addr}{o':Obj},X.s₀.heap.get? b=some o'->X.H₀ b=none->b∉X.ex->b≠a:=λ{b o'} q n hx z=>by
  subst z;have:=I0.base.free b o' q n hx;rw[e0]at this;cases this
 refine⟨I0.ok,I.os,I.bare,⟨λb o' q n hb hx=>I.base.keep b o' q (un n (nx q n hx)) hb hx,λb o' q n hb hx=>I.base.slot b o' q (un n (nx q n hx)) hb hx,λb o' q n hx=>I.base.free b o' q (un n (nx q n hx)) hx,I.base.there,λb xs q=>?_,λb o' u q=>?_,λb ps q=>?_⟩,I.loc,I.cell,I.free,I.freeC,I.pin,I.hok,I.len⟩
 ·exact I.base.tups b xs (un q λz=>by subst z;have:=I0.base.tups b xs q;rw[e0]at this;cases this)
 ·exact I.base.frzs b o' u (un q λz=>by subst z;have:=I0.base.frzs b o' u q;rw[e0]at this;cases this)
 ·exact I.base.tbls b ps (un q λz=>by subst z;obtain⟨m,this⟩:=I0.base.tbls b ps q;rw[e0]at this;cases this)
noncomputable def qFu(tl:TE)(g:TG)(tb:TS):TS:=λD σ H=>tl σ H λx H1=>∃a kvs,x=.ref a/\H1 a=some (.dK kvs)/\∀o,∃W:Nat->St->Hp->Prop,W 0 σ (upd H1 a (.frz o (.dK kvs)))/\∀i σ H,W i σ H->H a=some (.frz o (.dK kvs)) ->
 (kvs.length<=i->D.nx σ (upd H a (.dK kvs)))/\∀k,kvs[i]?=some k->g (kV k.1) σ H λσ2 H2=>tb { nx:=W (i+1),ct:=W (i+1),bk:=λ_ _=>False,rt:=λ_ _=>False } σ2 H2
theorem ps_fordict{tg iter:Expr}{body:List Stmt}{tl:TE}{g:TG}{tb:TS}{pos:Pos}(hp:PassesOwn (model X.prog X.w) X.A X.env X.xe)(hc:X.calm=true)(hi:PE X iter tl)(hg:∀a u,PG (withH X a u) tg g)(hb:∀a u,PSs (withH X a u) body tb)
  (hs:∀x,foldedSetIterable iter X.env x=pure x):PS X (.For tg iter body [] pos) (qFu tl g tb):=by
 intro pins s σ H D I h;refine wpAny_For (thn (hi pins s σ H _ I h) λv s1 ⟨x,H1,I1,r1,q⟩=>?_) hs;obtain⟨a,kvs,ex,eH,q⟩:=q;subst ex;cases r1;obtain⟨o,vs,ep,I2,r,hy,hd,g0⟩:=I1.freeze eH;have h0:∀o v,X.H₀ a≠some (.frz o v):=λo v z=>by have:=I1.base.frzs a o v z;rw[eH]at this;cases this
 obtain⟨W,w0,l6⟩:=q o;refine wpAny_pyIter_dict hy (hd _ g0) ?_;have I3:=(I2.kept (t':=s1.toks) (h':=s1.heap.push { cls:=.type "dict_keyiterator",data:=.fields #[.ref a,.int 0 0,.int vs.length 0,.int ep 0] }) λb o e=>Heap.get?_push_of_some _ e).enter qC;have T:ZL X.prog X.w X.K tg (Itk a o kvs) [s1.heap.objs.size] s1.heap.objs.size (λi h=>h.IsKeyIter s1.heap.objs.size a i vs.length ep):=Y9 a _ r hd;have f2:∀b∈[s1.heap.objs.size],QJ (withH X a (.frz o (.dK kvs))) pins (upd H1 a (.frz o (.dK kvs))) b:=λb hb=>by
  have e:b=s1.heap.objs.size:=by simpa using hb
  subst e;exact(I2.enter qC).fpOk (wM _) (I2.hok.fresh (wM _))
 generalize hfp:[s1.heap.objs.size]=fp at T f2;generalize htn:(λ(i:Nat) (h:Heap)=>h.IsKeyIter s1.heap.objs.size a i vs.length ep)=tn at T;have st2:tn 0 (s1.heap.push { cls:=.type "dict_keyiterator",data:=.fields #[.ref a,.int 0 0,.int vs.length 0,.int ep 0] }):=by rw[<-htn];exact⟨_,Heap.get?_push_size _ rfl,rfl,by rfl⟩
 have stat:∀{H':Hp},(∀b∈fp,H' b=none)->∀b∈fp,QJ (withH X a (.frz o (.dK kvs))) pins H' b:=λhn b hb=>⟨hn b hb,(f2 b hb).2⟩
 refine codeAny_forLoop_any (λn s'=>∃i σ' H',n=kvs.length-i/\Inv (withH X a (.frz o (.dK kvs))) pins σ' H' s'/\tn i s'.heap/\(∀b∈fp,H' b=none)/\W i σ' H') ?_ kvs.length ⟨0,σ,_,by omega,I3,st2,λb hb=>(f2 b hb).1,w0⟩;rintro n s3 ⟨i,σ3,H3,hn,I3',st3,fr3,w3⟩;have eF:H3 a=some (.frz o (.dK kvs)):=I3'.base.frzs a o _ (by show upd X.H₀ a _ a=_;rw[qC]);obtain⟨t1,t2⟩:=l6 i σ3 H3 w3 eF;by_cases hik:kvs.length<=i
 ·refine wpAny_passesOwn hp (thn (T.done (withH X a (.frz o (.dK kvs))) rfl rfl rfl hc i pins s3 σ3 H3 X.xe I3' (stat fr3) st3 ⟨eF,hik⟩) λr s4 ⟨hr,I4⟩=>?_);subst hr;exact wpAny_execs_nil ⟨σ3,_,(I1.exit eH I4).melt eF h0,t1 hik⟩
 ·refine wpAny_passesOwn hp (thn (T.item (withH X a (.frz o (.dK kvs))) rfl rfl rfl hc i pins s3 σ3 H3 X.xe I3' (stat fr3) st3 ⟨eF,by omega⟩) λr s4 ⟨u,hr,h4⟩=>?_);subst hr;refine wpAny_passesOwn hp (thn h4 λ_ s5 ⟨x,H5,I5,r5,y5,st5,fr5⟩=>?_);obtain⟨rfl,k,ek,rfl⟩:=y5;have I5':=I5.pinned (stat fr5) (T.obj _ _ st5);refine wpAny_passesOwn hp (thn (hg a _ _ s5 σ3 _ _ u _ I5' r5 (t2 k ek)) λ_ s6 ⟨σ6,H6,I6,q6⟩=>?_);refine wpAny_passesOwn hp (thn (hb a _ _ s6 σ6 H6 _ I6 q6) λf s7 q7=>?_);have again:∀{σ7:St}{H7:Hp},Inv (withH X a (.frz o (.dK kvs))) (pins++ZV fp s5.heap) σ7 H7 s7->W (i+1) σ7 H7->∃m,m<n/\∃i σ' H',m=kvs.length-i/\Inv (withH X a (.frz o (.dK kvs))) pins σ' H' s7/\tn i s7.heap/\(∀b∈fp,H' b=none)/\W i σ' H':=λ{σ7 H7} I7 n7=>by
   refine⟨kvs.length-(i+1),by omega,i+1,σ7,H7,rfl,I7.unpinned,T.keep _ _ _ st5 λb hb o e=>(I7.pin (b,o) (wQ _ (wQ _ (zV hb e)))).1,λb hb=>?_,n7⟩;obtain⟨o,e,d⟩:=T.obj _ _ st5 b hb;exact(I7.pin (b,o) (wQ _ (wQ _ (zV hb e)))).2.1
  cases f with
  |next=>obtain⟨σ7,H7,I7,n7⟩:=q7;exact again I7 n7
  |cont=>obtain⟨σ7,H7,I7,n7⟩:=q7;exact again I7 n7
  |brk=>obtain⟨σ7,H7,I7,q7⟩:=q7;exact q7.elim
  |ret v=>obtain⟨x7,σ7,H7,I7,r7,q7⟩:=q7;exact q7.elim
end
theorem Jj:∀{kvs:List (Key×V)}{vs:List (Key×Value)}{us:List Value}{P:Program}{w:World},KV kvs vs->us.length=vs.length->(∀(j:Nat) (v:Value),us[j]?=some v->∃k x,vs[j]?=some (k,x)/\(qb P w).is k v=true)->Vals (kvs.map λq=>kV q.1) us
 |_,_,us,P,w,.nil,hl,h=>by
  cases us with
  |nil=>exact .nil
  |cons=>cases hl
 |_,_,us,P,w,.cons (a:=p) (b:=q) r0 r,hl,h=>by
  cases us with
  |nil=>cases hl
  |cons u us=>
   refine .cons ?_ (Jj (P:=P) (w:=w) r (by simpa using hl) λj v e=>?_)
   ·obtain⟨k,x,e1,e2⟩:=h 0 u rfl;have:q=(k,x):=by simpa using e1
    show RelV (kV p.1) u;rw[r0.1,this];exact qDv e2
   ·have:=h (j+1) v (by simpa using e);simpa using this
theorem callR_lstD{X:Cx}(hc:X.calm=true):zG X (.type "list") (λxs H Q=>∃p kvs,xs=[.ref p]/\H p=some (.dK kvs)/\∀l,H l=none->Q (.ref l) (upd H l (.lst (kvs.map λq=>kV q.1)))):=by
 intro pins s σ H xs us Q I r ⟨p,kvs,e,hp,q⟩;subst e;obtain⟨u,rfl,ru⟩:=vals1 r;cases ru;obtain⟨hz,y,vs,rel,o,es,ep,e1,e2,e3,e4,e5,e6⟩:=(show ObjOk X.prog X.w H s.heap p (.dK kvs) from I.hok p _ hp)
 have hm:s.heap.DictAt (qb X.prog X.w) p vs ep:=⟨o,es,e1,e2,e3,e4,e5,e6⟩
 refine W.kdl_call (W.kdl_dict y) (I.ok.hd hc) hm (by rw[rel.len];exact hz) λh' tk acc' c' hk hat hi=>?_;refine⟨.ref s.heap.objs.size,_,I.laid (t':=tk) (o:=.lst (kvs.map λq=>kV q.1)) (λb o' e=>hk b o' e) (wM _) ?_,rfl,q _ (I.hok.fresh (wM _))⟩;refine⟨by rw[wK];exact hz,acc'.toList,c',Jj (P:=X.prog) (w:=X.w) rel ?_ λj v e=>?_,?_⟩
 ·rw[vD];exact hi.1
 ·exact hi.2 j v (by rw[<-Array.getElem?_toList];exact e)
 ·rw[Array.toArray_toList];exact hat
end _L
namespace _P
open PySem PySem.Spec PyProof.Rows PySem.SeqAt
open _L (V Hp HO Cx PE PT PA PS PSs PG PGs PW TE TT TA TS TG TGs VK upd qC qE SqL SqT QR Inv RelV Vals EP TP AP SP OpR zG R2 It ZL QJ Itl Itt N8 withH)
section
variable{X:Cx}{G:List Addr}{F:Nat->List V->AH->RV}{a:E}{ea tg:Expr}{pos:Pos}
theorem Jx{φ:List Addr}:∀{kvs ks:List (Int×V)},RK φ kvs ks->(ks.map kk).map (λq=>_L.kV q.1)=kvs.map λq=>V.int q.1
 |_,_,.nil=>rfl
 |p::kvs,q::ks,.cons r0 r=>by
  rw[List.map_cons,List.map_cons,List.map_cons,Jx r];show _L.kV (Sum.inl q.1)::_=_;rw[r0.1];rfl
theorem R6{φ:List Addr}:∀(kvs:List (Int×V)),rvs φ (kvs.map λq=>V.int q.1) (kvs.map λq=>V.int q.1)
 | []=>.nil
 |p::kvs=>.cons rfl (R6 kvs)
theorem qCD{p:Pos}(hc:X.calm=true)(hg:_L.Gl X "list")(hm:X.mg "list"=none)(hn:qY ea=true)(ha:SE X G F ea a):SE X G F (.Call (.Name "list" p) [ea] [] pos) (.dlst a):=by
 refine qp (_L.pe_callTy (_L.callR_lstD hc) hg hm PyProof.Rows.boot_list (_L.pa_cons ha _L.pa_nil (qI hn)) (by decide) (by decide) (qI hn) rfl) λσc H Q q=>?_;obtain⟨φ,h,σ,v,h',R,rs,e,k⟩:=q;unfold ev at e;obtain⟨⟨x,h1⟩,e1,e⟩:=tK e;refine⟨φ,h,σ,x,h1,R,rs,e1,λφ1 H1 w x1 R1 r1=>?_⟩;dsimp only at e;obtain⟨p0,rfl,e3⟩:=qq e;clear e;have e:=e3;clear e3;split at e
 ·rename_i kvs ed;split at e
  ·cases e;obtain⟨a',ks,ea',_,hH,rk⟩:=R1.dct ed;obtain⟨a2,rfl,ha2⟩:=qL r1;rw[ea']at ha2;cases ha2;refine⟨a',ks.map kk,rfl,hH,λl hl=>?_⟩;rw[Jx rk];exact k (φ1++[l]) _ _ (x1.trans ⟨[_],rfl⟩) (R1.newL hl (R6 kvs)) R1.lastRef
  ·cases e
 ·cases e
theorem qBY{iter:Expr}{body:List Stmt}{sb:Ss}{x d:Nat}(hx:X.xe=λ_ _=>False)(hc:X.calm=true)(hi:SE X G F iter (.var d))(hg:∀a u,SG (withH X a u) G tg (.name x))(hb:∀a u,SSs (withH X a u) G F body sb)
  (hs:∀x,foldedSetIterable iter X.env x=pure x):SS X G F (.For tg iter body [] pos) (.dfor x d sb):=by
 refine Qy (_L.ps_fordict (by rw[hx];exact PassesOwn.never) hc hi (g:=tG X.K G (.name x)) (tb:=tS X.K G (exs F sb)) hg hb hs) λD σc H q=>?_;obtain⟨φ,h,σ,out,h',R,rs,e,k⟩:=q;unfold ex at e;split at e
 ·rename_i p hp;split at e
  ·rename_i kvs ed;refine⟨φ,h,σ,.ref p,h,R,rs,by unfold ev;rw[hp],λφ1 H1 w x1 R1 r1=>?_⟩;obtain⟨a',ks,ea',eh,hH,rk⟩:=R1.dct ed;obtain⟨a2,rfl,ha2⟩:=qL r1;rw[ea']at ha2;cases ha2;refine⟨a',ks.map kk,rfl,hH,λo=>?_⟩;have R2:Rl X.K G φ1 (h.set p (.ob (.fdc kvs))) (upd H1 a' (.frz o (.dK (ks.map kk)))):=R1.write rfl rfl eh ea' ⟨ks,o,qC,rk⟩;refine⟨λi σ' H'=>∃φ' h2 σa,Ext φ1 φ'/\Rl X.K G φ' h2 H'/\rst φ' σa σ'/\h2[p]?=some (.ob (.fdc kvs))/\qA5 x p kvs (exs F sb) ((kvs.map (·.1)).drop i) σa h2=.ok (out,h'),⟨φ1,_,σ,.refl _,R2,rst.mono x1 rs,wb (wB.mp eh).1,e⟩,?_⟩;rintro i σ' H' ⟨φ',h2,σa,x2,Ra,rsa,eD,ef⟩ eF;have kl:(ks.map kk).length=kvs.length:=by rw[wK,rk.len]
   refine⟨λhi=>?_,λkv hkv=>?_⟩
   ·rw[vm (by rw[wK];omega)]at ef;unfold qA5 at ef;rw[if_pos eD]at ef;cases ef;exact k φ' _ (x1.trans x2) (Ra.write (y:=.ob (.dct kvs)) rfl rfl eD (x2.get ea') ⟨ks,qC,RK.mono x2 rk⟩) σ' rsa
   ·have hik:i<kvs.length:=by rw[<-kl];exact(wB.mp hkv).1
    have key:_L.kV kv.1=V.int kvs[i].1:=by
     have h1:=congrArg (·[i]?) (Jx rk);simp only[wg]at h1;rw[wg]at hkv;rw[hkv,wD hik]at h1;exact Option.some.inj h1
    have hd:(kvs.map (·.1)).drop i=kvs[i].1::(kvs.map (·.1)).drop (i+1):=by
     rw[vd (by rw[wK];exact hik),vq]
    rw[hd]at ef;unfold qA5 at ef;obtain⟨⟨o2,h4⟩,e4,ef⟩:=tK ef;have e4:exs F sb (σa.set x (some (.int kvs[i].1))) h2=.ok (o2,h4):=by
     revert e4;generalize exs F sb (σa.set x (some (.int kvs[i].1))) h2=r;cases r<;>intro e4<;>first|exact e4|cases e4
    refine⟨φ',h2,σa,.int kvs[i].1,σa.set x (some (.int kvs[i].1)),Ra,rsa,by rw[key];rfl,rfl,λσc3 rs3=>?_⟩;dsimp only at ef;split at ef
    ·rename_i eD4;refine⟨φ',h2,_,o2,h4,Ra,rs3,e4,λφ4 H4 x4 R4=>?_⟩;cases o2 with
     |nx σ4=>exact λσc4 rs4=>⟨φ4,h4,σ4,x2.trans x4,R4,rs4,eD4,ef⟩
     |ct σ4=>exact λσc4 rs4=>⟨φ4,h4,σ4,x2.trans x4,R4,rs4,eD4,ef⟩
     |bk σ4=>cases ef
     |rt v=>cases ef
    ·cases ef
  ·cases e
 ·cases e
end
set_option genInjectivity false in structure Gam where
 N:List Str
 sc:Scope
 fns:List Str
 gl:List (Str×E)
 bl:List Str
 own:Str->Bool
 cls:List Str:=[]
 xr:Bool:=false
noncomputable def slot(N:List Str)(x:Str):Option Nat:=(List.range N.length).find? λi=>N[i]?==some x
theorem jv{N:List Str}{x:Str}{i:Nat}(h:slot N x=some i):N[i]?=some x:=by
 unfold slot at h;simpa using List.find?_some h
noncomputable def qFf(sc:Scope)(x:Str):Bool:=match sc.names.lookup x with|some .local=>true|some .cell=>true|some .free=>true|_=>false
theorem qBL{sc:Scope}{x:Str}(h:qFf sc x=true):_L.Vis sc x:=by
 unfold qFf at h;unfold _L.Vis;split at h<;>first|(rename_i e;simp[e])|cases h
noncomputable def glB(sc:Scope)(x:Str):Bool:=sc.names.lookup x==some .globalImplicit
noncomputable def okN(x:Str):Bool:=!(x==("__debug__":Str))&&!(x==("__classdict__":Str))&&!decide (x="__name__")
noncomputable def qGt:Operator->Option BOp
 | .Add=>some .add | .Sub=>some .sub | .Mult=>some .mul | .FloorDiv=>some .fdiv | .Mod=>some .mod | .Pow=>some .pow | .BitAnd=>some .band | .LShift=>some .shl | .RShift=>some .shr | .BitXor=>some .bxor|_=>none
theorem qBM{o:Operator}{b:BOp}(h:qGt o=some b):o=opB b:=by
 cases o<;>cases h<;>rfl
noncomputable def M8:CmpOp->COp
 | .Lt=>.lt | .LtE=>.le | .Gt=>.gt | .GtE=>.ge | .Eq=>.eq | .NotEq=>.ne | .In=>.inn | .NotIn=>.notin | .Is=>.is | .IsNot=>.isnot
theorem A9(o:CmpOp):o=opC (M8 o):=by cases o<;>rfl
noncomputable def Jy:Expr->Bool
 | .Set ..=>false
 |_=>true
noncomputable def E3:Expr->Bool
 | .Call ..=>false
 |_=>true
noncomputable def bfL:List (Str×BF):=[("len",.len),("sum",.sum),("all",.all),("max",.max),("min",.min),("list",.list),("int",.int)]
noncomputable def qFe(x:Str):Option BF:=bfL.lookup x
theorem ZK{x:Str}{f:BF}:∀{l:List (Str×BF)},l.lookup x=some f->(x,f)∈l
 | [],h=>by cases h
 | (a,b)::l,h=>by
  rw[List.lookup_cons]at h;split at h
  ·rename_i e;cases h;rw[eq_of_beq e];exact wU ..
  ·exact wL _ (ZK h)
theorem qC2:∀p∈bfL,bootBuiltins p.1=some (fnB p.2):=
 wv.mpr ⟨PySem.boot_len,wv.mpr ⟨PyProof.Rows.boot_sum,wv.mpr ⟨PyProof.Rows.boot_all,wv.mpr ⟨PyProof.Rows.boot_max,wv.mpr ⟨PyProof.Rows.boot_min,wv.mpr ⟨PyProof.Rows.boot_list,wv.mpr ⟨PyProof.Rows.boot_int,(λ_ h=>absurd h wR)⟩⟩⟩⟩⟩⟩⟩
theorem g5{x:Str}{f:BF}(h:qFe x=some f):bootBuiltins x=some (fnB f):=qC2 _ (ZK h)
noncomputable def mxA(b:BF)(as:List Expr):BF:=if decide (b=.max)&&decide (as.length=1) then .maxl else b
theorem qDA{x:Str}{f:BF}{as:List Expr}(h:qFe x=some f):bootBuiltins x=some (fnB (mxA f as)):=by
 unfold mxA;split
 ·rename_i c;rw[wE,uJ]at c;rw[g5 h,c.1];rfl
 ·exact g5 h
noncomputable def qE6(x:Str):Option String:=
 if x="int" then some "int" else if x="bool" then some "bool" else if x="list" then some "list" else if x="tuple" then some "tuple" else if x="str" then some "str" else if x="dict" then some "dict" else none
theorem qB6{x:Str}{t:String}(h:qE6 x=some t):bootBuiltins x=some (.type t)/\JN t=true:=by
 unfold qE6 at h
 repeat' split at h
 all_goals first|cases h|skip
 all_goals (rename_i hx;subst hx)
 ·exact⟨PyProof.Rows.boot_int,by decide⟩
 ·exact⟨PyProof.Rows.boot_bool,by decide⟩
 ·exact⟨PyProof.Rows.boot_list,by decide⟩
 ·exact⟨PyProof.Rows.boot_tuple,by decide⟩
 ·exact⟨PyProof.Rows.boot_str,by decide⟩
 ·exact⟨PyProof.Rows.boot_dict,by decide⟩
noncomputable def qEr(scope sc:Scope):Scope:=
 { scope with names:=scope.names.map λ(n,k)=>if (k==.free&&sc.kind==.function&&sc.names.lookup n==some .cell) then (n,.cell) else (n,k) }
noncomputable def U2:Expr->List Str
 | .Name x _=>[x]
 | .Tuple es _ _=>es.filterMap λe:Expr=>match e with | .Name x _=>some x|_=>none
 |_=>[]
noncomputable def qDa(scope:Scope):List Str:=scope.names.filterMap λy=>if y.2=.free then some y.1 else none
noncomputable def Zt(Γ:Gam)(scope:Scope)(N:List Str)(src:List (Option Nat)):Bool:=
 decide (scope.kind=.function)&&scope.names.all (λy=>decide (scope.names.lookup y.1=some y.2))
 && scope.names.all (λy=>decide (y.2=.free->(Γ.sc.names.lookup y.1=some .cell\/Γ.sc.names.lookup y.1=some .free)))&&decide N.Nodup&&decide (src.length=N.length)
 && (List.range N.length).all (λi=>match N[i]?,src[i]? with|some x,some (some j)=>decide (Γ.N[j]?=some x/\scope.names.lookup x=some .free)|_,_=>true)
noncomputable def J1(Γ:Gam)(x:Str):Bool:=match Γ.sc.names.lookup x with|some .local=>true|some .cell=>Γ.own x|_=>false
noncomputable def qEc(Γ:Gam):List Expr->Option (List Nat)
 | []=>some []
 | .Name x _::r=>if J1 Γ x then (match slot Γ.N x,qEc Γ r with|some i,some is=>some (i::is)|_,_=>none) else none
 |_=>none
noncomputable def trT(Γ:Gam):Expr->Option Tg
 | .Name x _=>if J1 Γ x then (slot Γ.N x).map .name else none
 | .Tuple es _ _=>(qEc Γ es).map .tup
 |_=>none
noncomputable def qFa:Expr->Bool
 | .Name x _=>(["told","fixed","signs"]:List Str).contains x
 |_=>false
noncomputable def qFA:List Expr->Bool
 | [a]=>qFa a
 |_=>false
noncomputable def qCq:List Expr->Bool
 | [.Call (.Name r _) [_,_] [] _]=>decide (r="zip")
 |_=>false
noncomputable def qFi:List Expr->Bool
 | [.Call (.Name r _) [_] [] _]=>decide (r="range")
 | [.Call (.Name r _) [_,_] [] _]=>decide (r="range")
 |_=>false
noncomputable def C0(g:Nat):E->Bool
 | .glob i=>i==g
 |_=>false
noncomputable def qBG(Γ:Gam):E->Bool
 | .glob g=>Γ.gl.any λp=>((Γ.gl.lookup p.1).map (C0 g)).getD false
 |_=>true
noncomputable def qF8:E->Bool
 |_=>true
mutual
noncomputable def trE:Nat->Gam->Expr->Option E
 | 0,_,_=>none
 |n+1,Γ,e=>match e with
  | .Constant c _ _=>(match c with
   | .int i=>some (.cst (.int i))
   | .bool i=>some (.cst (.bl i))
   | .none=>some (.cst .non)
   | .str i=>some (.cst (.str i))
   |_=>none)
  | .Name x _=>if okN x then (if qFf Γ.sc x then (slot Γ.N x).map .var else if glB Γ.sc x then Γ.gl.lookup x else none) else none
  | .BinOp a op b _=>match qGt op,trE n Γ a,trE n Γ b with|some o,some a',some b'=>some (.bin o a' b')|_,_,_=>none
  | .UnaryOp op a _=>(match op with
   | .USub=>(trE n Γ a).map .neg
   | .Not=>(trE n Γ a).map .not
   |_=>none)
  | .BoolOp op vs p=>trB n Γ op p vs
  | .IfExp c a b _=>match trE n Γ c,trE n Γ a,trE n Γ b with|some c',some a',some b'=>some (.ite c' a' b')|_,_,_=>none
  | .Compare a ops bs _=>(match ops,bs with
   | [op],[b]=>if Jy b then (match trE n Γ a,trE n Γ b with|some a',some b'=>some (.cmp (M8 op) a' b')|_,_=>none) else none
   | [o1,o2],[b,c]=>if Jy c then (match trE n Γ a,trE n Γ b,trE n Γ c with|some a',some b',some c'=>some (.cmp2 (M8 o1) (M8 o2) a' b' c')|_,_,_=>none) else none
   |_,_=>none)
  | .Call fn args kws cpos=>(match kws with
   | []=>(match fn with
    | .Name f _=>if okN f&&glB Γ.sc f&&args.all qY then trC n Γ f args else none
    | .Attribute o m apos=>(match args with
     | [x]=>if m="append"/\E3 o=true/\qY x=true/\(apos.endLine==cpos.line)=true then (match trE n Γ o,trE n Γ x with|some o',some x'=>some (.app o' x')|_,_=>none)
   else if m="index"/\E3 o=true/\qY x=true/\(apos.endLine==cpos.line)=true then (match trE n Γ o,trE n Γ x with|some o',some x'=>if qBG Γ o' then some (.index o' x') else none|_,_=>none) else none
     | []=>if m="bit_length" then (if E3 o=true/\(apos.endLine==cpos.line)=true then (trE n Γ o).map (λo'=>.blt .bits (.cons o' .nil)) else none) else none
     |_=>none)
    |_=>none)
   |_=>none)
  | .Subscript a b _=>(match b with
   | .Slice lo hi st _=>(match st with
    |none=>(match trE n Γ a,trO n Γ lo,trO n Γ hi with|some a',some l,some h=>some (.sl a' l h)|_,_,_=>none)
    |some _=>none)
   |b=>if jp b then (match trE n Γ a,trE n Γ b with|some a',some b'=>some (if qFa a then .dix a' b' else .idx a' b')|_,_=>none) else none)
  | .List es _=>if es.all qY then (trA n Γ es).map .lst else none
  | .Tuple es _ _=>if es.all qY then (trA n Γ es).map .tup else none
  | .Dict ks vs _=>(match ks,vs with|[],[]=>some .dnew|_,_=>none)
  | .ListComp elt gens scope _=>(match gens with
   | [gen]=>(match gen with
    | ⟨tg,iter,ifs,asy⟩=>(match asy with
     | 0=>
      let N:=U2 tg++qDa scope
      let src:=(U2 tg).map (λ_=>none)++(qDa scope).map (slot Γ.N)
      let Γ':Gam:={ Γ with N:=N,sc:=qEr scope Γ.sc,own:=λx=>decide (scope.names.lookup x=some .cell) }
      if Zt Γ scope N src&&Jy iter then (match trI n Γ tg iter,trT Γ' tg,qCm n Γ' ifs,trE n Γ' elt with|some it,some g,some c,some e'=>some (.comp it src g c e')|_,_,_,_=>none) else none
     |_=>none))
   |_=>none)
  |_=>none
noncomputable def trA:Nat->Gam->List Expr->Option Es
 | 0,_,_=>none
 |_+1,_,[]=>some .nil
 |n+1,Γ,e::es=>match trE n Γ e,trA n Γ es with|some a,some as=>some (.cons a as)|_,_=>none
noncomputable def trB:Nat->Gam->BoolOp->Pos->List Expr->Option E
 | 0,_,_,_,_=>none
 |_+1,_,_,_,[]=>none
 |n+1,Γ,_,_,[a]=>trE n Γ a
 |n+1,Γ,op,p,a::b::r=>match trE n Γ a,trB n Γ op p (b::r) with|some a',some b'=>some (match op with | .And=>.and a' b' | .Or=>.or a' b')|_,_=>none
noncomputable def trC:Nat->Gam->Str->List Expr->Option E
 | 0,_,_,_=>none
 |n+1,Γ,f,args=>match slot Γ.fns f with
  |some i=>(trA n Γ args).map (.call i)
  |none=>if Γ.bl.contains f then
    (if f="isinstance" then (match args with
     | [a,.Name t _]=>if okN t&&glB Γ.sc t&&Γ.bl.contains t then (match trE n Γ a,qE6 t with|some a',some t'=>some (.isi a' [t'])|_,_=>none) else none
     |_=>none)
    else if f="list"/\qFi args=true then none
    else if f="dict"/\qCq args=true then (match args with
     | [.Call (.Name r _) [a,b] [] _]=>if okN r&&glB Γ.sc r&&Γ.bl.contains r&&qY a&&decide (r="zip")&&qY b then (match trE n Γ a,trE n Γ b with|some a',some b'=>some (.dzip a' b')|_,_=>none) else none
     |_=>none)
    else if f="list"/\qFA args=true then (match args with
     | [a]=>(trE n Γ a).map .dlst
     |_=>none)
    else match qFe f,args with
     |some b,_::_=>(trA n Γ args).map (.blt (mxA b args))
     |_,_=>none)
   else none
noncomputable def trO:Nat->Gam->Option Expr->Option Es
 | 0,_,_=>none
 |_+1,_,none=>some .nil
 |n+1,Γ,some e=>(trE n Γ e).map λa=>.cons a .nil
noncomputable def qCm:Nat->Gam->List Expr->Option Es
 | 0,_,_=>none
 |_+1,_,[]=>some .nil
 |n+1,Γ,[c]=>(trE n Γ c).map λa=>.cons a .nil
 |_,_,_=>none
noncomputable def trI:Nat->Gam->Expr->Expr->Option Itr
 | 0,_,_,_=>none
 |n+1,Γ,tg,iter=>match iter with
  | .Call (.Name f _) args [] _=>
   if f="range" then (if glB Γ.sc f&&Γ.bl.contains f&&args.all qY then (match args with
    | [a]=>(trE n Γ a).map .rng1
    |_=>none) else none)
   else if f="zip" then (if glB Γ.sc f&&Γ.bl.contains f&&args.all qY then none else none)
   else if f="enumerate" then (if glB Γ.sc f&&Γ.bl.contains f&&args.all qY then (match tg,args with
    | .Tuple ..,[a]=>(trE n Γ a).map .enum
    |_,_=>none) else none)
   else (trE n Γ iter).map .list
  |_=>(trE n Γ iter).map .list
end
mutual
noncomputable def trS:Nat->Gam->Stmt->S
 | 0,_,_=>.stop
 |n+1,Γ,st=>match st with
  | .Assign ts v _=>(match ts with
   | [tgt]=>(match tgt with
    | .Name x _=>(match trT Γ (.Name x ⟨0,0,0,0⟩),trE 60 Γ v with|some g,some a=>if qF8 a then .asg g a else .stop|_,_=>.stop)
    | .Tuple es k p=>(match es,v with
     | [.Name _ _,.Name _ _],.Tuple [_,_] _ _=>.stop
     |es,v=>if Qg v&&qEB v then (match trT Γ (.Tuple es k p),trE 60 Γ v with|some g,some a=>.asg g a|_,_=>.stop) else .stop)
    | .Subscript o i _=>if jp i then (match trE 60 Γ o,trE 60 Γ i,trE 60 Γ v with|some o',some i',some v'=>.put o' i' v' | _,_,_=>.stop) else .stop
    |_=>.stop)
   |_=>.stop)
  | .Expr e _=>if Qg e then (match trE 60 Γ e with|some a=>.expr a|none=>.stop) else .stop
  | .Return r _=>(match r with
   |some e=>(match trE 60 Γ e with|some a=>.ret a|none=>.stop)
   |none=>.stop)
  | .If c t u _=>match trE 60 Γ c with|some c'=>.ifs c' (P8 n Γ t) (P8 n Γ u)|none=>.stop
  | .For tg iter b els _=>(match els with
   | []=>if Jy iter then (if qFa iter=true then (match trT Γ tg,trE 60 Γ iter with|some (.name x),some (.var d)=>.dfor x d (P8 n Γ b)|_,_=>.stop) else match trI 60 Γ tg iter,trT Γ tg with|some it,some g=>.for_ g it (P8 n Γ b)|_,_=>.stop) else .stop
   |_=>.stop)
  |_=>.stop
noncomputable def P8:Nat->Gam->List Stmt->Ss
 | 0,_,_=>.cons .stop .nil
 |_+1,_,[]=>.nil
 |n+1,Γ,s::r=>.cons (trS n Γ s) (P8 n Γ r)
end
structure Fit(Γ:Gam)(X:Cx)(G:List Addr)(F:Nat->List V->AH->RV):Prop where
 hN:X.N=Γ.N
 nd:Γ.N.Nodup
 sc:X.env.scope=Γ.sc
 calm:X.calm=true
 fn:∀x,Γ.own x=true->X.fn x=true
 fns:∀(f:Nat) x,Γ.fns[f]?=some x->FnS X G F f x
 gls:∀x e,Γ.gl.lookup x=some e->(∃v u,e=.cst v/\X.mg x=some u/\RelV v u/\∀φ,rv φ v v)\/(∃g a,e=.glob g/\X.mg x=some (.ref a)/\G[g]?=some a)
 blt:∀x,Γ.bl.contains x=true->X.mg x=none
 hu:X.A.units+8<cLine
 gd:X.A.guards=some []
 gtu:∀a∈G,∃o,X.K.lookup a=some o/\o.cls=.type "tuple"/\o.dict=none
section
variable{Γ:Gam}{X:Cx}{G:List Addr}{F:Nat->List V->AH->RV}
theorem X6{x:Str}(h:okN x=true):(x==("__debug__":Str))=false/\(x==("__classdict__":Str))=false/\x≠"__name__":=by
 unfold okN at h;simp only[wE,Bool.not_eq_true',decide_eq_false_iff_not]at h;exact⟨h.1.1,h.1.2,h.2⟩
theorem Fit.wH(f:Fit Γ X G F)(a:Addr)(u:_L.HO):Fit Γ (_L.withH X a u) G F:=⟨f.hN,f.nd,f.sc,f.calm,f.fn,λi x e=>⟨(f.fns i x e).ex⟩,f.gls,f.blt,f.hu,f.gd,f.gtu⟩
theorem Fit.gl'(f:Fit Γ X G F){x:Str}(h:glB Γ.sc x=true):_L.Gl X x:=by
 unfold _L.Gl Env.kindOf;rw[f.sc];simpa [glB] using h
theorem Fit.store(f:Fit Γ X G F){x:Str}(h:J1 Γ x=true):_L.Loc X.env.scope x/\(X.fn x=true\/X.env.scope.names.lookup x=some .local):=by
 rw[f.sc];unfold J1 at h;unfold _L.Loc;split at h
 ·rename_i e;exact⟨.inl e,.inr e⟩
 ·rename_i e;exact⟨.inr e,.inl (f.fn x h)⟩
 ·cases h
theorem qAk(f:Fit Γ X G F):∀{es:List Expr}{is:List Nat},qEc Γ es=some is->PGs X es (tGs is)/\(assignEach es X.env).length=is.length/\(assignEach es X.env).findIdx? (·.1)=none
 | [],is,h=>by
  cases h;exact⟨qCa,rfl,rfl⟩
 |e::es,is,h=>by
  unfold qEc at h;split at h
  ·rename_i e1;cases e1
  ·rename_i x p r e1;cases e1;split at h
   ·rename_i hs;split at h
    ·rename_i i is' ei eis;cases h;obtain⟨h1,h2⟩:=f.store hs;obtain⟨g1,g2,g3⟩:=qAk f eis;refine⟨qAL (by rw[f.hN];exact f.nd) (by rw[f.hN];exact jv ei) h1 h2 g1,?_,?_⟩
     ·show (assignEach es X.env).length+1=_;rw[g2];rfl
     ·show (((false,assign (.Name x p) X.env)::assignEach es X.env).findIdx? (·.1))=none;rw[List.findIdx?_cons,g3];rfl
    ·cases h
   ·cases h
  ·cases h
theorem M7(f:Fit Γ X G F){tg:Expr}{g:Tg}(h:trT Γ tg=some g):SG X G tg g:=by
 unfold trT at h;split at h
 ·rename_i x p;split at h
  ·rename_i hs;obtain⟨i,ei,rfl⟩:=wA.mp h;obtain⟨h1,h2⟩:=f.store hs;exact Q9 (by rw[f.hN];exact f.nd) (by rw[f.hN];exact jv ei) h1 h2
  ·cases h
 ·obtain⟨is,ei,rfl⟩:=wA.mp h;obtain⟨g1,g2,g3⟩:=qAk f ei;exact qDt f.calm g1 g2 g3
 ·cases h
theorem V6{op:CmpOp}{e:Expr}(h:Jy e=true):behindInMarks op e=false:=by
 cases e<;>first|rfl|cases h
theorem T1{o1 o2:CmpOp}{b c:Expr}(h:Jy c=true):lastMarks [o1,o2] [b,c]=false:=by
 show behindInMarks o2 c=false;exact V6 h
theorem E7{iter:Expr}{env:Env}(h:Jy iter=true):∀x,foldedSetIterable iter env x=pure x:=by
 intro x;cases iter<;>first|rfl|cases h
theorem j3{o:Expr}{n:Str}{env:Env}{w:Sem Value}(h:E3 o=true):attributeBase o n env w=w:=by
 cases o<;>first|rfl|cases h
theorem jr(f:Fit Γ X G F){scope:Scope}{N:List Str}{src:List (Option Nat)}(h:Zt Γ scope N src=true):_L.CompScope X scope N src:=by
 unfold Zt at h;simp only[wE,List.all_eq_true,uJ]at h;obtain⟨⟨⟨⟨⟨h1,h2⟩,h4⟩,h5⟩,h6⟩,h7⟩:=h;refine⟨h1,h2,λy hy hk=>?_,h5,h6,λi x j e1 e2=>?_⟩
 ·unfold Env.kindOf;rw[f.sc];exact h4 y hy hk
 ·have hi:i<N.length:=(wB.mp e1).1;have:=h7 i (wZ.mpr hi);rw[e1,e2]at this;rw[f.hN];simpa using this
theorem jJ(f:Fit Γ X G F){scope:Scope}{N:List Str}{src:List (Option Nat)}(h:Zt Γ scope N src=true)(C:Addr)(fp:List Addr)(s:Shared)(H:Hp):
  Fit { Γ with N:=N,sc:=qEr scope Γ.sc,own:=λx=>decide (scope.names.lookup x=some .cell) } (_L.cxComp X scope C fp s H N) G F:=by
 have S:=jr f h;refine⟨rfl,S.nd,?_,f.calm,λx z=>z,λg x e=>?_,f.gls,f.blt,f.hu,f.gd,f.gtu⟩
 ·show relabel scope X.env=qEr scope Γ.sc;unfold relabel qEr Env.kindOf;rw[f.sc]
 ·exact⟨(f.fns g x e).ex⟩
theorem i7(f:Fit Γ X G F){a:E}(h:qBG Γ a=true):∀g,a=.glob g->∃ga o,G[g]?=some ga/\X.K.lookup ga=some o/\o.cls=.type "tuple"/\o.dict=none:=by
 rintro g rfl;obtain⟨p,_,hp⟩:=wu.mp h;cases hl:Γ.gl.lookup p.1 with
 |none=>rw[hl]at hp;cases hp
 |some e=>
  rw[hl]at hp;replace hp:C0 g e=true:=hp;unfold C0 at hp;split at hp
  ·rename_i i;have:i=g:=by simpa using hp
   subst this;rcases f.gls _ _ hl with⟨v,u,z,_⟩|⟨g',ga,z,_,hg⟩
   ·cases z
   ·cases z;obtain⟨o,h1⟩:=f.gtu ga (wT hg);exact⟨ga,o,hg,h1⟩
  ·cases hp
theorem G8(n:Nat):
  (∀ Γ e a,trE n Γ e=some a->∀X:Cx,Fit Γ X G F->SE X G F e a/\ST X G F e a)/\
  (∀ Γ es as,trA n Γ es=some as->es.all qY=true->∀X:Cx,Fit Γ X G F->SA X G F es as)/\
  (∀ Γ op p vs a,trB n Γ op p vs=some a->∀X:Cx,Fit Γ X G F->SE X G F (.BoolOp op vs p) a/\SW X G F (.BoolOp op vs p) a)/\
  (∀ Γ f args a,trC n Γ f args=some a->okN f=true->glB Γ.sc f=true->args.all qY=true->∀X:Cx,Fit Γ X G F->∀p pos,SE X G F (.Call (.Name f p) args [] pos) a)/\
  (∀ Γ o as,trO n Γ o=some as->∀X:Cx,Fit Γ X G F->SO X G F o as)/\
  (∀ Γ ifs as,qCm n Γ ifs=some as->∀X:Cx,Fit Γ X G F->SC X G F ifs as)/\
  (∀ Γ tg iter it,trI n Γ tg iter=some it->∀X:Cx,Fit Γ X G F->SI X G F tg iter it):=by
 induction n with
 |zero=>exact⟨(λ_ _ _ h=>by unfold trE at h;cases h),(λ_ _ _ h=>by unfold trA at h;cases h),(λ_ _ _ _ _ h=>by unfold trB at h;cases h),(λ_ _ _ _ h=>by unfold trC at h;cases h),(λ_ _ _ h=>by unfold trO at h;cases h),(λ_ _ _ h=>by unfold qCm at h;cases h),(λ_ _ _ _ h=>by unfold trI at h;cases h)⟩
 |succ n ih=>
  obtain⟨iE,iA,iB,iC,iO,iIf,iI⟩:=ih;refine⟨?_,?_,?_,?_,?_,?_,?_⟩
  ·intro Γ e a h X f;unfold trE at h;split at h
   ·split at h
    ·cases h;exact⟨qAZ,qU qAZ λ_=>rfl⟩
    ·cases h;exact⟨qCu,qU qCu λ_=>rfl⟩
    ·cases h;exact⟨qAU,qU qAU λ_=>rfl⟩
    ·cases h;exact⟨qBB,qU qBB λ_=>rfl⟩
    ·cases h
   ·rename_i x p;split at h
    ·rename_i ho;obtain⟨o1,o2,o3⟩:=X6 ho;split at h
     ·rename_i hv;obtain⟨i,ei,rfl⟩:=wA.mp h;have s1:SE X G F (.Name x p) (.var i):=qEJ (by rw[f.hN];exact jv ei) (by rw[f.sc];exact qBL hv) o1 o2;exact⟨s1,qU s1 λ_=>rfl⟩
     ·split at h
      ·rename_i hg;rcases f.gls x a h with⟨v,u,rfl,e1,e2,e3⟩|⟨g,ad,rfl,e1,e2⟩
       ·have s1:SE X G F (.Name x p) (.cst v):=qBe (f.gl' hg) e1 e2 e3 o1;exact⟨s1,qU s1 λ_=>rfl⟩
       ·have s1:SE X G F (.Name x p) (.glob g):=qBd (f.gl' hg) e1 e2 o1;exact⟨s1,qU s1 λ_=>rfl⟩
      ·cases h
    ·cases h
   ·split at h
    ·rename_i o a' b' eo ea eb;cases h;rw[qBM eo];exact⟨qAq (iE _ _ _ ea X f).1 (iE _ _ _ eb X f).1,qU (qAq (iE _ _ _ ea X f).1 (iE _ _ _ eb X f).1) λ_=>rfl⟩
    ·cases h
   ·split at h
    ·obtain⟨a',ea,rfl⟩:=wA.mp h;have s1:=qCw (pos:=‹Pos›) (iE _ _ _ ea X f).1;exact⟨s1,qU s1 λ_=>rfl⟩
    ·obtain⟨a',ea,rfl⟩:=wA.mp h;exact⟨qEU (iE _ _ _ ea X f).1,qET (iE _ _ _ ea X f).2⟩
    ·cases h
   ·obtain⟨s1,s2⟩:=iB _ _ _ _ _ h X f;exact⟨s1,s2.pt⟩
   ·split at h
    ·rename_i c' a' b' ec ea eb;cases h;exact⟨qDd (iE _ _ _ ec X f).2 (iE _ _ _ ea X f).1 (iE _ _ _ eb X f).1,qD8 (iE _ _ _ ec X f).2 (iE _ _ _ ea X f).2 (iE _ _ _ eb X f).2⟩
    ·cases h
   ·split at h
    ·rename_i op b0;split at h
     ·rename_i hs;split at h
      ·rename_i a' b' ea eb;cases h;rw[A9 op];have e1:M8 (opC (M8 op))=M8 op:=by cases op<;>rfl
       rw[e1];exact⟨qEI f.hu (iE _ _ _ ea X f).1 (iE _ _ _ eb X f).1 (V6 hs),qDx f.hu (iE _ _ _ ea X f).1 (iE _ _ _ eb X f).1 (V6 hs)⟩
      ·cases h
     ·cases h
    ·rename_i o1 o2 b0 c0;split at h
     ·rename_i hs;split at h
      ·rename_i a' b' c' ea eb ec;cases h;rw[A9 o1,A9 o2];have e1:M8 (opC (M8 o1))=M8 o1:=by cases o1<;>rfl
       have e2:M8 (opC (M8 o2))=M8 o2:=by cases o2<;>rfl
       rw[e1,e2];exact⟨n8 f.hu (iE _ _ _ ea X f).1 (iE _ _ _ eb X f).1 (iE _ _ _ ec X f).1 (T1 hs),v4 f.hu (iE _ _ _ ea X f).1 (iE _ _ _ eb X f).1 (iE _ _ _ ec X f).1 (T1 hs)⟩
      ·cases h
     ·cases h
    ·cases h
   ·split at h
    ·split at h
     ·split at h
      ·rename_i hc;simp only[wE]at hc;have s1:=iC _ _ _ _ h hc.1.1 hc.1.2 hc.2 X f;exact⟨s1 _ _,qU (s1 _ _) λ_=>rfl⟩
      ·cases h
     ·split at h
      ·split at h
       ·rename_i hc;obtain⟨rfl,hc1,hc2,hc3⟩:=hc;split at h
        ·rename_i o' x' eo ex;cases h;have s1:=qDc (j3 hc1) hc3 hc2 (iE _ _ _ eo X f).1 (iE _ _ _ ex X f).1;exact⟨s1,qU s1 λ_=>rfl⟩
        ·cases h
       ·split at h
        ·rename_i hc;obtain⟨rfl,hc1,hc2,hc3⟩:=hc;split at h
         ·rename_i o' x' eo ex;split at h
          ·rename_i hgo;cases h;have s1:=qAG (i7 f hgo) (j3 hc1) hc3 hc2 (iE _ _ _ eo X f).1 (iE _ _ _ ex X f).1;exact⟨s1,qU s1 λ_=>rfl⟩
          ·cases h
         ·cases h
        ·cases h
      ·split at h
       ·rename_i hm;subst hm;split at h
        ·rename_i hc;obtain⟨o',eo,rfl⟩:=wA.mp h;have s1:=qB9 f.calm f.hu f.gd (j3 hc.1) hc.2 (iE _ _ _ eo X f).1;exact⟨s1,qU s1 λ_=>rfl⟩
        ·cases h
       cases h
      ·cases h
     ·cases h
    ·cases h
   ·split at h
    ·split at h
     ·split at h
      ·rename_i a' l h' ea el eh;cases h;exact⟨qC1 (iE _ _ _ ea X f).1 (iO _ _ _ el X f) (iO _ _ _ eh X f),qU (qC1 (iE _ _ _ ea X f).1 (iO _ _ _ el X f) (iO _ _ _ eh X f)) λ_=>rfl⟩
      ·cases h
     ·cases h
    ·split at h
     ·rename_i hs;split at h
      ·rename_i a' b' ea eb;split at h
       ·cases h;have s1:=qEA (pos:=‹Pos›) f.hu hs (iE _ _ _ ea X f).1 (iE _ _ _ eb X f).1;exact⟨s1,qU s1 λ_=>rfl⟩
       ·cases h;have s1:=qD0 (pos:=‹Pos›) hs (iE _ _ _ ea X f).1 (iE _ _ _ eb X f).1;exact⟨s1,qU s1 λ_=>rfl⟩
      ·cases h
     ·cases h
   ·split at h
    ·rename_i hs;obtain⟨a',ea,rfl⟩:=wA.mp h;have s1:=qD7 (pos:=‹Pos›) (iA _ _ _ ea hs X f);exact⟨s1,qU s1 λ_=>rfl⟩
    ·cases h
   ·split at h
    ·rename_i hs;obtain⟨a',ea,rfl⟩:=wA.mp h;exact⟨qAn (iA _ _ _ ea hs X f),qU (qAn (iA _ _ _ ea hs X f)) λ_=>rfl⟩
    ·cases h
   ·split at h
    ·cases h;exact⟨i5,qU i5 λ_=>rfl⟩
    ·cases h
   ·split at h
    ·split at h;split at h
     ·dsimp only at h;split at h
      ·rename_i hc;simp only[wE]at hc;split at h
       ·rename_i it g c e' ei eg ec ee;cases h;have s1:=S6 (pos:=‹Pos›) f.calm (iI _ _ _ _ ei X f) (jr f hc.1) (λC fp s H=>M7 (jJ f hc.1 C fp s H) eg) (λC fp s H=>iIf _ _ _ ec _ (jJ f hc.1 C fp s H)) (λC fp s H=>(iE _ _ _ ee _ (jJ f hc.1 C fp s H)).1) (E7 hc.2);exact⟨s1,qU s1 λ_=>rfl⟩
       ·cases h
      ·cases h
     ·cases h
    ·cases h
   ·cases h
  ·intro Γ es as h hs X f;cases es with
   |nil=>simp only[trA]at h;cases h;exact U7
   |cons e es=>
    simp only[trA]at h;simp only[List.all_cons,wE]at hs;split at h
    ·rename_i a as ea eas;cases h;exact A3 hs.1 (iE _ _ _ ea X f).1 (iA _ _ _ eas hs.2 X f)
    ·cases h
  ·intro Γ op p vs a h X f;cases vs with
   |nil=>simp only[trB]at h;cases h
   |cons e r=>
    cases r with
    |nil=>
     simp only[trB]at h;obtain⟨s1,s2⟩:=iE _ _ _ h X f;refine⟨_L.pe_one s1,?_⟩;cases op with
     |And=>exact _L.pw_and1 s2
     |Or=>exact _L.pw_or1 s2
    |cons b r=>
     simp only[trB]at h;split at h
     ·rename_i a' b' ea eb;cases h;obtain⟨s1,s2⟩:=iE _ _ _ ea X f;obtain⟨s3,s4⟩:=iB _ _ _ _ _ eb X f;cases op with
      |And=>exact⟨qC9 s1 s3,qDY s2 s4⟩
      |Or=>exact⟨qFB s1 s3,qFb s2 s4⟩
     ·cases h
  ·intro Γ g args a h ho hg hs X f p pos;obtain⟨o1,o2,o3⟩:=X6 ho;unfold trC at h;split at h
   ·rename_i i ei;obtain⟨as,ea,rfl⟩:=wA.mp h;have sA:=iA _ _ _ ea hs X f;cases args with
    |nil=>
     have:as=.nil:=by
      cases n with
      |zero=>simp only[trA]at ea;cases ea
      |succ m=>simp only[trA]at ea;cases ea;rfl
     subst this;exact qAD (f.fns i g (jv ei)) (f.gl' hg) o1
    |cons e es=>
     simp only[List.all_cons,wE]at hs;exact qBZ (f.fns i g (jv ei)) (f.gl' hg) o1 hs.1 hs.2 sA
   ·split at h
    ·rename_i hb;split at h
     ·rename_i hi;subst hi;split at h
      ·rename_i e0 t pt;split at h
       ·rename_i hc;simp only[wE]at hc;obtain⟨t1,t2,t3⟩:=X6 hc.1.1;split at h
        ·rename_i a' t' ea et;cases h;obtain⟨b1,b2⟩:=qB6 et;simp only[List.all_cons,wE]at hs;exact qDn b2 (f.gl' hg) (f.blt _ hb) (f.gl' hc.1.2) (f.blt _ hc.2) b1 t3 t1 hs.1 (iE _ _ _ ea X f).1
        ·cases h
       ·cases h
      ·cases h
     ·split at h
      ·rename_i hl;obtain⟨rfl,_⟩:=hl;cases h
      rename_i hneg;clear hneg;split at h
      ·rename_i hl;obtain⟨rfl,_⟩:=hl;split at h
       ·rename_i r pr e0 e1 pc;split at h
        ·rename_i hc;simp only[wE,uJ]at hc;obtain⟨⟨⟨⟨⟨c1,c2⟩,c3⟩,c4⟩,rfl⟩,c5⟩:=hc;split at h
         ·rename_i a' b' ea eb;cases h;exact qBp f.calm (f.gl' hg) (f.blt _ hb) (f.gl' c2) (f.blt _ c3) c4 c5 (iE _ _ _ ea X f).1 (iE _ _ _ eb X f).1
         ·cases h
        ·cases h
       ·cases h
      rename_i hneg;clear hneg;split at h
      ·rename_i hl;obtain⟨rfl,_⟩:=hl;split at h
       ·rename_i e0;obtain⟨a',ea,rfl⟩:=wA.mp h;simp only[List.all_cons,wE]at hs;exact qCD f.calm (f.gl' hg) (f.blt _ hb) hs.1 (iE _ _ _ ea X f).1
       ·cases h
      rename_i hneg;clear hneg;split at h
      ·rename_i b e es eb;obtain⟨as,ea,rfl⟩:=wA.mp h;have sA:=iA _ _ _ ea hs X f;simp only[List.all_cons,wE]at hs;exact qD2 f.calm f.hu f.gd (f.gl' hg) (f.blt _ hb) (qDA eb) hs.1 hs.2 sA o3 o1
      ·cases h
    ·cases h
  ·intro Γ o as h X f;cases o with
   |none=>simp only[trO]at h;cases h;exact qBs
   |some e=>
    simp only[trO]at h;obtain⟨a,ea,rfl⟩:=wA.mp h;exact qCB (iE _ _ _ ea X f).1
  ·intro Γ ifs as h X f;cases ifs with
   |nil=>simp only[qCm]at h;cases h;exact qC3
   |cons e r=>
    cases r with
    |nil=>
     simp only[qCm]at h;obtain⟨a,ea,rfl⟩:=wA.mp h;exact qDH (iE _ _ _ ea X f).2
    |cons b r=>simp only[qCm]at h;cases h
  ·intro Γ tg iter it h X f;unfold trI at h;split at h
   ·rename_i fn p args pos;split at h
    ·rename_i hf;subst hf;split at h
     ·rename_i hc;simp only[wE]at hc;split at h
      ·rename_i e;obtain⟨a,ea,rfl⟩:=wA.mp h;have hs:=hc.2;simp only[List.all_cons,wE]at hs;exact qCK (f.gl' hc.1.1) (f.blt _ hc.1.2) hs.1 (iE _ _ _ ea X f).1
      ·cases h
     ·cases h
    ·split at h
     ·rename_i hf;subst hf;split at h
      ·rename_i hc;simp only[wE]at hc;cases h
      ·cases h
     ·split at h
      ·rename_i hf;subst hf;split at h
       ·rename_i hc;simp only[wE]at hc;split at h
        ·obtain⟨a,ea,rfl⟩:=wA.mp h;have hs:=hc.2;simp only[List.all_cons,wE]at hs;exact qCT (f.gl' hc.1.1) (f.blt _ hc.1.2) hs.1 (iE _ _ _ ea X f).1
        ·cases h
       ·cases h
      ·obtain⟨a,ea,rfl⟩:=wA.mp h;exact V0 (iE _ _ _ ea X f).1
   ·obtain⟨a,ea,rfl⟩:=wA.mp h;exact V0 (iE _ _ _ ea X f).1
end
open _L (FnOk Fun zY Binds Room)
section
variable{G:List Addr}{F:Nat->List V->AH->RV}
theorem Zu{Γ:Gam}{X:Cx}(f:Fit Γ X G F)(hx:∀x,Γ.own x=true){n:Nat}{elt:Expr}{gens:List Comprehension}{scope:Scope}{cpos p pos:Pos}{a:E}{x:Str}{g:Tg}(hd:qF8 a=true)(h:trE n Γ (.ListComp elt gens scope cpos)=some a)
  (hg:trT Γ (.Name x ⟨0,0,0,0⟩)=some g):SS X G F (.Assign [.Name x p] (.ListComp elt gens scope cpos) pos) (.asg g a):=by
 cases n with
 |zero=>unfold trE at h;cases h
 |succ n=>
  unfold trT at hg;dsimp only at hg;split at hg
  ·rename_i hs;obtain⟨i,ei,rfl⟩:=wA.mp hg;obtain⟨h1,h2⟩:=f.store hs;obtain⟨iE,iA,iB,iC,iO,iIf,iI⟩:=G8 (G:=G) (F:=F) n;unfold trE at h;dsimp only at h;split at h
   ·split at h;split at h
    ·split at h
     ·rename_i hc;simp only[wE]at hc;split at h
      ·rename_i it g c e' ei' eg ec ee;cases h;exact qCE f.calm (iI _ _ _ _ ei' X f) (jr f hc.1) (λC fp s H=>M7 (jJ f hc.1 C fp s H) eg) (λC fp s H=>iIf _ _ _ ec _ (jJ f hc.1 C fp s H)) (λC fp s H=>(iE _ _ _ ee _ (jJ f hc.1 C fp s H)).1) (E7 hc.2) (by rw[f.hN];exact f.nd) (by rw[f.hN];exact jv ei) h1 h2
      ·cases h
     ·cases h
    ·cases h
   ·cases h
  ·cases hg
theorem X3(n:Nat):(∀ Γ st (X:Cx),Fit Γ X G F->(∀x,Γ.own x=true)->X.xe=(λ_ _=>False)->SS X G F st (trS n Γ st))/\(∀ Γ sts (X:Cx),Fit Γ X G F->(∀x,Γ.own x=true)->X.xe=(λ_ _=>False)->SSs X G F sts (P8 n Γ sts)):=by
 induction n with
 |zero=>
  refine⟨fun Γ st X f ho hx=>?_,fun Γ sts X f ho hx=>?_⟩
  ·unfold trS;exact qc
  ·unfold P8;intro pins s σ H D I q;obtain⟨φ,h,σa,o,h',R,rs,e,k⟩:=q;unfold exs ex at e;cases e
 |succ n ih=>
  obtain⟨i1,i2⟩:=ih;obtain⟨iE,iA,iB,iC,iO,iIf,iI⟩:=G8 (G:=G) (F:=F) 60;refine⟨fun Γ st X f ho hx=>?_,fun Γ sts X f ho hx=>?_⟩
  ·unfold trS;split
   ·split
    ·split
     ·rename_i v pos _ _ x p;split
      ·rename_i g a eg ea;split
       ·rename_i hd;by_cases hc:Qg v=true
        ·refine Qy (_L.ps_asg (iE _ _ _ ea X f).1 (M7 f (tg:=.Name x p) eg) (ZB hc) (by cases v<;>rfl) rfl) λ_ _ _=>D5
        ·cases v with
         |ListComp elt gens scope cpos=>exact Zu f ho hd ea eg
         |SetComp elt gens scope cpos=>unfold trE at ea;cases ea
         |DictComp k elt gens scope cpos=>unfold trE at ea;cases ea
         |_=>exact absurd rfl hc
       ·exact qc
      ·exact qc
     ·split
      ·exact qc
      ·split
       ·rename_i hc;simp only[wE]at hc;split
        ·rename_i g a eg ea;have hg:=eg;unfold trT at hg;obtain⟨is,ei,rfl⟩:=wA.mp hg;exact qDG (M7 f eg) (iE _ _ _ ea X f).1 hc.1 hc.2
        ·exact qc
       ·exact qc
     ·split
      ·rename_i hc;split
       ·rename_i o' i' v' eo ei ev;exact qDF f.hu (iE _ _ _ eo X f).1 (iE _ _ _ ei X f).1 (iE _ _ _ ev X f).1 hc
       ·exact qc
      ·exact qc
     ·exact qc
    ·exact qc
   ·split
    ·rename_i hc;split
     ·rename_i a ea;exact qBw (iE _ _ _ ea X f).1 hc
     ·exact qc
    ·exact qc
   ·split
    ·split
     ·rename_i a ea;exact qCr (iE _ _ _ ea X f).1
     ·exact qc
    ·exact qc
   ·split
    ·rename_i a ea;exact qCp (iE _ _ _ ea X f).2 (i2 _ _ X f ho hx) (i2 _ _ X f ho hx)
    ·exact qc
   ·split
    ·split
     ·rename_i hs;split
      ·split
       ·rename_i x d eg ea;exact qBY hx f.calm (iE _ _ _ ea X f).1 (λa u=>M7 (f.wH a u) eg) (λa u=>i2 _ _ _ (f.wH a u) ho hx) (E7 hs)
       ·exact qc
      split
      ·rename_i it g ei eg;exact qEV hx f.calm (iI _ _ _ _ ei X f) (M7 f eg) (i2 _ _ X f ho hx) (E7 hs)
      ·exact qc
     ·exact qc
    ·exact qc
   ·exact qc
  ·cases sts with
   |nil=>unfold P8;exact qBq
   |cons s r=>unfold P8;exact qAN (i1 _ _ X f ho hx) (i2 _ _ X f ho hx)
end
theorem len1{α:Type}{us:List α}(h:us.length=1):∃a,us=[a]:=List.length_eq_one_iff.mp h
theorem len2{α:Type}{us:List α}(h:us.length=2):∃a b,us=[a,b]:=by
 cases us with
 |nil=>cases h
 |cons a r=>obtain⟨b,rfl⟩:=len1 (us:=r) (by simpa using h);exact⟨a,b,rfl⟩
theorem len3{α:Type}{us:List α}(h:us.length=3):∃a b c,us=[a,b,c]:=by
 cases us with
 |nil=>cases h
 |cons a r=>obtain⟨b,c,rfl⟩:=len2 (us:=r) (by simpa using h);exact⟨a,b,c,rfl⟩
structure N7 where
 x:Str
 st:Stmt
 ps:List Str
 N:List Str
set_option genInjectivity false in structure Tbl where
 ds:List N7
 gl:List (Str×E)
 bl:List Str
 cls:List Str:=[]
 xr:List Str:=[]
noncomputable def Tbl.gam(T:Tbl)(d:N7):Gam:=⟨d.N,_L.defScope d.st,T.ds.map (·.x),T.gl,T.bl,λ_=>true,T.cls,T.xr.contains d.x⟩
noncomputable def Tbl.fn(T:Tbl)(d:N7):Fn:=⟨d.ps.length,d.N.length,P8 60 (T.gam d) (_L.defBody d.st)⟩
noncomputable def Tbl.fns(T:Tbl):List Fn:=T.ds.map T.fn
structure qAK(K:PySem.W.Frag)(mg:Str->Option Value)(G:List Addr)(T:Tbl)(fa:List Addr)(fd:List FuncData):Prop where
 def_:∀(i:Nat) d,T.ds[i]?=some d->∃a f,fa[i]?=some a/\fd[i]?=some f/\Fun K d.x d.x d.st a f/\zY d.N d.ps (_L.defScope d.st)/\mg d.x=some (.ref a)/\Binds K f d.ps []
 gls:∀x e,T.gl.lookup x=some e->(∃v u,e=.cst v/\mg x=some u/\RelV v u/\∀φ,rv φ v v)\/(∃g a,e=.glob g/\mg x=some (.ref a)/\G[g]?=some a)
 blt:∀x,T.bl.contains x=true->mg x=none
 gtu:∀a∈G,∃o,K.lookup a=some o/\o.cls=.type "tuple"/\o.dict=none
theorem Y0{φ:List Addr}{ws vs:List V}(r:rvs φ ws vs)(n:Nat):rst φ (ws.map some++List.replicate n none) (vs.map some++List.replicate n none):=by
 refine qV ?_ ?_
 ·induction r with
  |nil=>exact .nil
  |cons h t ih=>exact .cons ⟨_,rfl,h⟩ ih
 ·induction n with
  |zero=>exact .nil
  |succ n ih=>exact .cons trivial ih
section
variable{P:Program}{w:World}{K:PySem.W.Frag}{mg:Str->Option Value}{base:Heap}{G:List Addr}{T:Tbl}{fa:List Addr}{fd:List FuncData}
theorem qEN{k i:Nat}{d:N7}(h1:T.ds[i]?=some d){ws:List V}{h h':AH}{v:V}(e:Fk T.fns (k+1) i ws h=.ok (v,h')):ws.length=d.ps.length/\d.ps.length<=d.N.length/\∃o,exs (Fk T.fns k) (P8 60 (T.gam d) (_L.defBody d.st)) (ws.map some++List.replicate (d.N.length-d.ps.length) none) h=.ok (o,h')/\
  ((∃σ,o=.nx σ/\v=.non)\/o=.rt v):=by
 unfold Fk at e;have ht:T.fns[i]?=some (T.fn d):=by unfold Tbl.fns;rw[wg,h1];rfl
 rw[ht]at e;dsimp only at e;split at e
 ·rename_i hc;obtain⟨⟨o,h2⟩,e2,e⟩:=tK e;have e4:exs (Fk T.fns k) (P8 60 (T.gam d) (_L.defBody d.st)) (ws.map some++List.replicate (d.N.length-d.ps.length) none) h=.ok (o,h2):=e2;refine⟨hc.1,hc.2,o,?_,?_⟩
  ·cases o<;>cases e<;>exact e4
  ·cases o with
   |nx σ=>cases e;exact .inl ⟨σ,rfl,rfl⟩
   |rt u=>cases e;exact .inr rfl
   |bk σ=>cases e
   |ct σ=>cases e
 ·cases e
theorem qEL(O:qAK K mg G T fa fd){k:Nat}{d:N7}(f0:∀(i:Nat) d a f,T.ds[i]?=some d->fa[i]?=some a->fd[i]?=some f->FnOk P w K mg base _L.CX0 (2*k) a f d.ps (spF G (Fk T.fns k) K i))
  (hS:zY d.N d.ps (_L.defScope d.st)) (CX:_L.CXT) (a:Addr) (cdv:Value) (A:Around) (outer:List Env) (s:Shared) (H:Hp) (E:_L.XK) (E2:Value->Shared->Prop) (hr:Room (2*k+1) (A.deeper (envOfC d.x (_L.defScope d.st) s.heap.objs.size a cdv))):
  Fit (T.gam d) ((_L.cxOf CX P w K mg base d.N d.x (_L.defScope d.st) a cdv A outer s H E).wish E2) G (Fk T.fns k):=by
 have get:∀(g:Nat) x,(T.gam d).fns[g]?=some x->∃d2 a2 f2,T.ds[g]?=some d2/\d2.x=x/\fa[g]?=some a2/\fd[g]?=some f2/\mg x=some (.ref a2)/\PySem.W.keepIn K (.ref a2)=true/\Binds K f2 d2.ps []:=λg x eg=>by
  have eg':(T.ds.map (·.x))[g]?=some x:=eg;rw[wg]at eg';cases hd:T.ds[g]? with
  |none=>rw[hd]at eg';cases eg'
  |some d2=>
   rw[hd]at eg';cases eg';obtain⟨a2,f2,q1,q2,q3,q4,q5,q6⟩:=O.def_ g d2 hd;exact⟨d2,a2,f2,rfl,rfl,q1,q2,q5,q3.kp,q6⟩
 refine⟨rfl,hS.nd,rfl,rfl,λ_ _=>rfl,λg x eg=>?_,O.gls,O.blt,?_,hr.gd,O.gtu⟩
 ·obtain⟨d2,a2,f2,q1,rfl,q2,q3,q4,q5,q6⟩:=get g x eg;exact⟨2*k,a2,f2,d2.ps,f0 g d2 a2 f2 q1 q2 q3,hr.mono (Nat.le_succ _),q4,q5,q6,hr.in1⟩
 ·have:=hr.units;show (A.deeper (envOfC d.x (_L.defScope d.st) s.heap.objs.size a cdv)).units+8<cLine;omega
theorem L0(O:qAK K mg G T fa fd):∀(k:Nat) (i:Nat) d a f,T.ds[i]?=some d->fa[i]?=some a->fd[i]?=some f->FnOk P w K mg base _L.CX0 (2*k) a f d.ps (spF G (Fk T.fns k) K i)
 | 0=>λi d a f h1 h2 h3=>⟨(λvs H Q E h=>by obtain⟨_,_,_,_,_,_,_,e,_⟩:=h;unfold Fk at e;cases e),(λA outer s H args us vs Q E hr e0 hb r h=>by obtain⟨_,_,_,_,_,_,_,e,_⟩:=h;unfold Fk at e;cases e)⟩
 |k+1=>by
  have f0:=L0 O k;refine λi d a f h1 h2 h3=>?_;obtain⟨a',f',e1,e2,hF,hS,hm,hB⟩:=O.def_ i d h1;rw[h2]at e1;cases e1;rw[h3]at e2;cases e2;refine hF.ok hS (λvs H Q E h=>?_) (λcdv A outer s H vs Q E hr h=>?_)
  ·obtain⟨φ,h0,ws,v,h',R,r,e,_⟩:=h;rw[<-Paired.length r];exact(qEN h1 e).1
  ·obtain⟨φ,h0,ws,v,h',R,r,e,kk⟩:=h;obtain⟨l1,l2,o,eo,ho⟩:=qEN h1 e;have fit:=qEL O f0 hS _L.CX0 a cdv A outer s H E (λ_ _=>False) hr;refine⟨_,(X3 (G:=G) (F:=Fk T.fns k) 60).2 (T.gam d) (_L.defBody d.st) _ fit (λ_=>rfl) rfl,φ,h0,_,o,h',R,?_,eo,λφ' H' x' R'=>?_⟩
   ·unfold _L.start;rw[<-Paired.length r,l1];exact Y0 r _
   ·rcases ho with⟨σ,rfl,rfl⟩|rfl
    ·exact λσc _=>kk φ' H' .non x' R' trivial
    ·exact λu ru=>kk φ' H' u x' R' ru
end
noncomputable def z9(K:PySem.W.Frag):_L.Sp:=λvs H Q _=>∃(a:Addr) (ns:List Int),vs=[.ref a]/\_L.Only H/\SqL K H a (ns.map V.int)/\ns.length<=63/\∀H',Q (.bl true) H'
noncomputable def JX(gs:List O)(ns:List Int):AH:=gs++[.lst true (ns.map V.int)]
def E6(K:PySem.W.Frag):List Addr->List O->Prop
 | [],[]=>True
 |a::as,.tup xs::os=>(SqT K (λ_=>none) a xs/\xs.all flat=true)/\E6 K as os
 |_,_=>False
theorem Zg{φ:List Addr}:∀{xs:List V},xs.all flat=true->rvs φ xs xs
 | [],_=>.nil
 |x::xs,h=>by
  simp only[List.all_cons,wE]at h;refine .cons ?_ (Zg h.2);cases x<;>first|rfl|exact trivial|(cases h.1)
theorem v7{K:PySem.W.Frag}{H:Hp}{a:Addr}{xs:List V}(q:SqT K (λ_=>none) a xs):SqT K H a xs:=by
 rcases q with(h|⟨o,h⟩)|h
 ·cases h
 ·cases h
 ·exact .inr h
theorem ZF{K:PySem.W.Frag}:∀{as:List Addr}{os:List O},E6 K as os->as.length=os.length/\∀(i:Nat) o a,os[i]?=some o->as[i]?=some a->∃xs,o=.tup xs/\SqT K (λ_=>none) a xs/\xs.all flat=true
 | [],[],_=>⟨rfl,λi o a h=>by simp at h⟩
 | [],_::_,h=>False.elim h
 |_::_,[],h=>False.elim h
 |a::as,.lst _ _::os,h=>False.elim h
 |a::as,.tup xs::os,h=>by
  obtain⟨h1,h2⟩:=h;obtain⟨l,k⟩:=ZF h2;refine⟨by simp[l],λi o b e1 e2=>?_⟩;cases i with
  |zero=>simp at e1 e2;subst e1 e2;exact⟨xs,rfl,h1⟩
  |succ i=>exact k i o b (by simpa using e1) (by simpa using e2)
theorem S4{P:Program}{w:World}{K:PySem.W.Frag}{mg:Str->Option Value}{base:Heap}{G:List Addr}{gs:List O}{T:Tbl}{fa:List Addr}{fd:List FuncData}(O:qAK K mg G T fa fd)(hG:E6 K G gs){k i:Nat}{d:N7}{a:Addr}{f:FuncData}
  (h1:T.ds[i]?=some d) (h2:fa[i]?=some a) (h3:fd[i]?=some f) (hp:d.ps=(["_law_script"]:List Str)) (main:∀ns:List Int,ns.length<=63->∃h',Fk T.fns k i [.ref gs.length] (JX gs ns)=.ok (.bl true,h')):
  FnOk P w K mg base _L.CX0 (2*k) a f (["_law_script"]:List Str) (z9 K):=by
 have F:=L0 (P:=P) (w:=w) (base:=base) O k i d a f h1 h2 h3;rw[hp]at F;refine⟨λvs H Q E h=>by obtain⟨b,ns,rfl,_⟩:=h;rfl,λA outer s H args us vs Q E hr e0 hb r h=>?_⟩;obtain⟨b,ns,rfl,hO,hS,hl,q⟩:=h;obtain⟨h',e⟩:=main ns hl;obtain⟨lg,kg⟩:=ZF hG;refine F.run A outer s H args us _ Q E hr e0 hb r ⟨G++[b],JX gs ns,[.ref gs.length],.bl true,h',⟨by unfold JX;simp[lg],⟨[b],rfl⟩,λj o c e1 e2=>?_,λj l xs ys c e1 e2 e3 e4=>?_⟩,.cons (by show (G++[b])[gs.length]?=some b;rw[<-lg];simp) .nil,e,λφ' H' u x' R' ru=>by rw[zS ru];exact q H'⟩
 ·unfold JX at e1;by_cases hj:j<gs.length
  ·rw[wC hj]at e1;rw[wC (by omega)]at e2;obtain⟨xs,rfl,h5,h6⟩:=kg j o c e1 e2;exact⟨xs,v7 h5,Zg h6⟩
  ·have hj':j=gs.length:=by
    have:=(wB.mp e1).1;simp at this;omega
   subst hj';simp at e1;rw[<-lg]at e2;simp at e2;subst e1 e2;refine⟨ns.map V.int,?_,Zg (Jm ns)⟩;rcases hS with(z|⟨ob,z⟩)|z
   ·rcases hO b with y|⟨ob,xs,y⟩<;>(rw[y]at z;cases z)
   ·exact .inl ⟨ob,z⟩
   ·exact .inr (.inr z)
 ·have no:∀{m:Nat}{z:_P.O},z.mu=true->(JX gs ns)[m]?=some z->False:=λ{m zs} mz em=>by
   unfold JX at em;by_cases hj:m<gs.length
   ·rw[wC hj]at em;obtain⟨xs,ex,_⟩:=kg m _ (G[m]'(by omega)) em (wD (by omega));subst ex;cases mz
   ·have hj':m=gs.length:=by
     have:=(wB.mp em).1;simp at this;omega
    subst hj';simp at em;subst em;cases mz
  exact(no ‹_› ‹_›).elim
open _L
abbrev qDe(K:PySem.W.Frag)(d:N7):Prop:=∃(f:Addr) (oc:Value) (od an:Option Addr) (sl:Array (Option Value)) (kV dc pm cd ct:Value),PySem.W.nsIn K mainGlobals d.x=some (some (.ref f))/\K.lookup f=some ⟨oc,od,.func (PySem.W.fnOf d.x d.x (ze d.st) (defBody d.st) (defScope d.st) .none kV dc pm an cd ct),sl⟩/\PySem.W.codeIn K cd d.x=true/\PySem.W.keepIn K (.ref f)=true
structure qCg(d:N7):Prop where
 sc:zY d.N d.ps (defScope d.st)
 bd:∀(kV doc pm:Value) (an:Option Addr) (cdv ct:Value) (us:List Value),us.length=d.ps.length->bindArgs (PySem.W.fnOf d.x d.x (ze d.st) (defBody d.st) (defScope d.st) .none kV doc pm an cdv ct) ⟨us,[]⟩=pure (d.ps.zip us)
theorem qAR{K:PySem.W.Frag}{h:Heap}{mg:Str->Option Value}(X:K.In h)(G:h.Ns mainGlobals mg):∀(ds:List N7),(∀d∈ds,qDe K d)->(∀d∈ds,qCg d)->∃(fa:List Addr) (fd:List FuncData),∀(i:Nat) d,ds[i]?=some d->∃a f,fa[i]?=some a/\fd[i]?=some f/\Fun K d.x d.x d.st a f/\zY d.N d.ps (_L.defScope d.st)/\mg d.x=some (.ref a)/\Binds K f d.ps []
 | [],_,_=>⟨[],[],λi d h=>by simp at h⟩
 |d::ds,h,hk=>by
  obtain⟨fa,fd,k⟩:=qAR X G ds (λx hx=>h x (by simp[hx])) λx hx=>hk x (by simp[hx]);obtain⟨f,oc,od,an,sl,kV,dc,pm,cd,ct,h1,h2,h3,h4⟩:=h d (by simp);have hd:=hk d (by simp);refine⟨f::fa,PySem.W.fnOf d.x d.x (ze d.st) (defBody d.st) (defScope d.st) .none kV dc pm an cd ct::fd,λi e he=>?_⟩;cases i with
  |zero=>cases he;exact⟨_,_,rfl,rfl,qA4 h2 h3 h4,hd.sc,PySem.W.mg_of X G h1,(qA4 h2 h3 h4).binds hd.bd⟩
  |succ i=>exact k i e he
theorem qFg{K:PySem.W.Frag}{d:N7}{a:Addr}{f:FuncData}{x:Str}(F:Fun K d.x d.x d.st a f)(h:qCg d)(hp:d.ps=[x])(s:Shared)(v:Value):BindsTo s f ⟨[v],[]⟩ [(x,v)]:=by
 obtain⟨oc,od,kV,doc,pm,an,cdv,ct,osl,rfl,lk,hcd⟩:=F.ex;refine .of_eq ?_;rw[h.bd kV doc pm an cdv ct [v] (by rw[hp];rfl),hp];rfl
inductive T where
 |v (x:V)|cell (n:Nat)|fz (xs:List T)|lst (xs:List T)|tup (xs:List T)|ob (o:Ob)|dt (ks:List Int) (ts:List T)
noncomputable def Ob.fl:Ob->Bool
 | .dct kvs=>kvs.all λp=>flat p.2
 | .fdc _=>false
 | .exn _=>true
noncomputable abbrev Mem:=List (List T)
noncomputable abbrev TS:=List (Option T)
set_option genInjectivity true in
inductive PR(α:Type)|ok(a:α)|exc(c:Nat)(M:Mem)|stuck
noncomputable def PR.bind{α β:Type}:PR α->(α->PR β)->PR β
 | .ok a,f=>f a
 | .exc c M,_=>.exc c M
 | .stuck,_=>.stuck
@[simp] theorem tD{α β:Type}(a:α)(f:α->PR β):(PR.ok a).bind f=f a:=Eq.trans rfl rfl
@[simp] theorem PR.bind_stuck{α β:Type}(f:α->PR β):(PR.stuck:PR α).bind f=.stuck:=Eq.trans rfl rfl
noncomputable def PR.nx{α:Type}:PR α->PR α
 | .ok a=>.ok a
 | .exc _ _=>.stuck
 | .stuck=>.stuck
@[simp] theorem PR.nx_ok{α:Type}(a:α):(PR.ok a).nx=.ok a:=Eq.trans rfl rfl
@[simp] theorem PR.nx_stuck{α:Type}:(PR.stuck:PR α).nx=.stuck:=Eq.trans rfl rfl
noncomputable def tH{α:Type}:Option α->PR α
 |some a=>.ok a
 |none=>.stuck
@[simp] theorem PR.ofO_some{α:Type}(a:α):tH (some a)=.ok a:=Eq.trans rfl rfl
mutual
noncomputable def T.lf:T->Bool
 | .v _=>true
 | .ob (.exn _)=>true
 | .tup ts=>T.lfs ts
 |_=>false
noncomputable def T.lfs:List T->Bool
 | []=>true
 |t::ts=>T.lf t&&T.lfs ts
end
mutual
noncomputable def T.und(n:Nat):T->Bool
 | .v _=>true
 | .ob _=>true
 | .cell k=>decide (k<n)
 | .fz ts=>T.unds n ts
 | .lst ts=>T.unds n ts
 | .tup ts=>T.unds n ts
 | .dt _ ts=>T.unds n ts
noncomputable def T.unds(n:Nat):List T->Bool
 | []=>true
 |t::ts=>T.und n t&&T.unds n ts
end
mutual
noncomputable def T.beq:T->T->Bool
 | .v x,.v y=>decide (x=y)
 | .cell x,.cell y=>decide (x=y)
 | .fz x,.fz y=>T.beqs x y
 | .lst x,.lst y=>T.beqs x y
 | .tup x,.tup y=>T.beqs x y
 | .ob x,.ob y=>decide (x=y)
 | .dt ks x,.dt js y=>decide (ks=js)&&T.beqs x y
 |_,_=>false
noncomputable def T.beqs:List T->List T->Bool
 | [],[]=>true
 |x::xs,y::ys=>T.beq x y&&T.beqs xs ys
 |_,_=>false
end
noncomputable abbrev QK:=List (Nat×List T)
noncomputable def qe(d:QK)(M:Mem):Bool:=d.all λp=>match M[p.1]? with|some ts=>T.beqs ts p.2|none=>false
noncomputable def T.its(M:Mem):T->Option (List T)
 | .lst xs=>some xs | .tup xs=>some xs | .fz xs=>some xs | .cell n=>M[n]? | _=>none
noncomputable def T.lis(M:Mem):T->Option (List T)
 | .lst xs=>some xs | .fz xs=>some xs | .cell n=>M[n]? | _=>none
noncomputable def T.mu(M:Mem):T->Option (List T)
 | .lst xs=>some xs | .cell n=>M[n]? | _=>none
noncomputable def qk:List T->Option (List Int)
 | []=>some []
 | .v (.int i)::r=>(qk r).map (i::·)
 |_::_=>none
noncomputable def jW:List T->Option (List Int)
 | []=>some []
 | .v (.int i)::r=>(jW r).map (i::·)
 | .v (.bl b)::r=>(jW r).map ((if b=true then 1 else 0)::·)
 |_=>none
noncomputable def zx:List T->Option (List Bool)
 | []=>some []
 | .v (.bl i)::r=>(zx r).map (i::·)
 |_::_=>none
noncomputable def zX:List T->Option (List V)
 | []=>some []
 | .v x::r=>(zX r).map (x::·)
 |_::_=>none
noncomputable def qt(f:T->T->Option Bool):List T->List T->Option (List Bool)
 | [],[]=>some []
 |x::xs,y::ys=>match f x y,qt f xs ys with
  |some b,some bs=>some (b::bs)
  |_,_=>none
 |_,_=>none
noncomputable def T.isV:T->Option V | .v x=>some x|_=>none
noncomputable def eqT(M:Mem):Nat->T->T->Option Bool
 | 0,s,t=>match s.isV,t.isV with|some x,some y=>eqF x y|_,_=>none
 |n+1,s,t=>match s.isV,t.isV with
  |some x,some y=>eqF x y
  |some _,none=>if (t.its M).isSome then some false else none
  |none,some _=>if (s.its M).isSome then some false else none
  |none,none=>match s.lis M,t.lis M with
   |some xs,some ys=>if xs.length=ys.length then (qt (eqT M n) xs ys).map λbs=>bs.all id else some false
   |some _,none=>if (t.its M).isSome then some false else none
   |none,some _=>if (s.its M).isSome then some false else none
   |none,none=>match s.its M,t.its M with
    |some xs,some ys=>if xs.length=ys.length then (qt (eqT M n) xs ys).map λbs=>bs.all id else (qt (eqT M n) (xs.take ys.length) (ys.take xs.length)).map λ_=>false
    |_,_=>none
noncomputable def JF(xs:List T)(lo hi:Option Int):List T:=(xs.drop (_H.sIx xs.length 0 lo)).take (_H.sIx xs.length xs.length hi-_H.sIx xs.length 0 lo)
noncomputable abbrev TB:=T×Bool
noncomputable def iT(i:Int):TB:=(.v (.int i),true)
noncomputable def bT(b:Bool):TB:=(.v (.bl b),true)
noncomputable def lT(xs:List T):TB:=(.lst xs,T.lfs xs)
noncomputable def qA8(x:T)(xs:List T)(lo hi:Option Int):Option TB:=match x with
 | .tup _=>if _H.sIx xs.length 0 lo=0/\_H.sIx xs.length xs.length hi=xs.length then none else some (.tup (JF xs lo hi),T.lfs (JF xs lo hi))
 |_=>some (lT (JF xs lo hi))
noncomputable def qg(M:Mem)(op:BOp)(x y:T):Option TB:=match x.isV,y.isV with
 |some (.int i),some (.int j)=>match op with
  | .add=>some (iT (i+j))
  | .sub=>some (iT (i-j))
  | .mul=>if QG i||QG j||(mid i&&mid j) then some (iT (i*j)) else none
  | .fdiv=>if 0<j/\(j<1073741824\/mid j=true) then some (iT (i / j)) else if j<0/\mid j=true then some (iT (i.fdiv j)) else none
  | .mod=>if 0<j then some (iT (i % j)) else if j<0 then some (iT (i.fmod j)) else none
  | .pow=>if 0<=j/\j<=1000/\i.natAbs<18446744073709551616 then some (iT (i ^ j.toNat)) else none
  | .band=>some (iT (PySem.Builtin.bitAnd i j))
  | .shl=>if 0<=j/\j<=1000/\i.natAbs<18446744073709551616 then some (iT (i*2 ^ j.toNat)) else none
  | .shr=>if 0<=j/\j<=1000 then some (iT (i / 2 ^ j.toNat)) else none
  | .bxor=>some (iT (PySem.Builtin.bitXor i j))
 |none,some (.int k)=>match op with
  | .mul=>(x.mu M).bind λxs=>if 0<=k/\xs.length*k.toNat<=lim/\k<1000000 then some (lT (List.replicate k.toNat xs).flatten) else none
  |_=>none
 |none,none=>match op with
  | .add=>(match x,y with
   | .tup xs,.tup ys=>if xs≠[]/\xs.length+ys.length<=lim then some (.tup (xs++ys),T.lfs (xs++ys)) else none
   |x,y=>(x.mu M).bind λxs=>(y.mu M).bind λys=>if xs.length+ys.length<=lim then some (lT (xs++ys)) else none)
  |_=>none
 |_,_=>none
noncomputable def T.dct:T->Option (List (Int×V))
 | .ob (.dct kvs)=>some kvs
 |_=>none
noncomputable def qAP:List Int->List T->Int->Option T
 |k::ks,t::ts,i=>if k=i then some t else qAP ks ts i
 |_,_,_=>none
noncomputable def T.dts:T->Option (List Int×List T)
 | .dt ks ts=>some (ks,ts)
 |_=>none
noncomputable def inT(M:Mem)(x y:T):Option Bool:=match y.dct with
 |some kvs=>(match x with | .v (.int i)=>some (Qz kvs i)|_=>none)
 |none=>match y.dts with
  |some q=>(match x with | .v (.int i)=>some (q.1.contains i)|_=>none)
  |none=>x.isV.bind λa=>(y.its M).bind λts=>(zX ts).map λxs=>xs.any λz=>_L.eqV z a
noncomputable def zB(M:Mem)(op:COp)(x y:T):Option Bool:=match op with
 | .eq=>eqT M 4 x y
 | .ne=>(eqT M 4 x y).map (!·)
 | .inn=>inT M x y
 | .notin=>(inT M x y).map (!·)
 | .is=>match y.isV with|some .non=>some (match x.isV with|some .non=>true|_=>false)|some (.bl d)=>(match x.isV with|some (.bl c)=>some (c==d)|_=>none)|_=>none
 | .isnot=>match y.isV with|some .non=>some (match x.isV with|some .non=>false|_=>true)|some (.bl d)=>(match x.isV with|some (.bl c)=>some (!(c==d))|_=>none)|_=>none
 | .lt=>match x.isV,y.isV with|some (.int i),some (.int j)=>some (decide (i<j))|_,_=>none
 | .le=>match x.isV,y.isV with|some (.int i),some (.int j)=>some (decide (i<=j))|_,_=>none
 | .gt=>match x.isV,y.isV with|some (.int i),some (.int j)=>some (decide (j<i))|_,_=>none
 | .ge=>match x.isV,y.isV with|some (.int i),some (.int j)=>some (decide (j<=i))|_,_=>none
noncomputable def q9(as:List T)(f:T->Option TB):Option TB:=match as with
 | [a]=>f a
 |_=>none
theorem zv{as:List T}{f:T->Option TB}{r:TB}(e:q9 as f=some r):∃a,as=[a]/\f a=some r:=by
 unfold q9 at e;split at e
 ·exact⟨_,rfl,e⟩
 ·cases e
noncomputable def twoT(as:List T)(f:Int->Int->Option TB):Option TB:=match as with
 | [a,b]=>(match a with
  | .v (.int i)=>(match b with | .v (.int j)=>f i j|_=>none)
  |_=>none)
 |_=>none
theorem twoT_inv{as:List T}{f:Int->Int->Option TB}{r:TB}(e:twoT as f=some r):∃i j,as=[.v (.int i),.v (.int j)]/\f i j=some r:=by
 unfold twoT at e;split at e
 ·split at e
  ·split at e
   ·exact⟨_,_,rfl,e⟩
   ·cases e
  ·cases e
 ·cases e
noncomputable def T.lenD:T->Option Nat
 | .ob (.dct kvs)=>some kvs.length
 | .dt ks _=>some ks.length
 |_=>none
noncomputable def jS(M:Mem):BF->List T->Option TB
 | .len,as=>q9 as λa=>((a.its M).map λxs=>iT xs.length).or (a.lenD.map λn=>iT (n:Nat))
 | .sum,as=>q9 as λa=>(a.lis M).bind λxs=>(jW xs).map λis=>iT is.sum
 | .all,as=>q9 as λa=>(a.lis M).bind λxs=>(zx xs).map λbs=>bT (bs.all id)
 | .max,as=>twoT as λi j=>some (iT (if j>i then j else i))
 | .min,as=>twoT as λi j=>some (iT (if j<i then j else i))
 | .list,as=>q9 as λa=>(a.its M).map lT
 | .int,as=>q9 as λa=>(match a with | .v (.int i)=>some (iT i) | .v (.bl b)=>some (iT (if b then 1 else 0))|_=>none)
 | .maxl,as=>q9 as λa=>(a.lis M).bind λxs=>(qk xs).bind λis=>(qCP is).map iT
 | .bits,as=>q9 as λa=>(match a with | .v (.int i)=>some (iT ((PySem.Builtin.Int.intBits i:Nat):Int))|_=>none)
noncomputable def T.sel(g:Bool)(M:Mem)(t:T):Option (List T):=if g=true then (match t with | .tup xs=>some xs|_=>none) else t.lis M
noncomputable def D7(g:Bool)(M:Mem)(x y:T):Option TB:=y.isV.bind λa=>(x.sel g M).bind λts=>(zX ts).bind λxs=>(xs.findIdx? λz=>_L.eqV z a).map λ(j:Nat)=>iT (j:Int)
noncomputable def T.isC(n:Nat):T->Bool | .cell k=>decide (k=n)|_=>false
noncomputable def jA(M:Mem):T->Option String
 | .v .non=>some "NoneType"
 | .v (.bl _)=>some "bool"
 | .v (.int _)=>some "int"
 | .v (.str _)=>some "str"
 | .v _=>none
 | .tup _=>some "tuple"
 | .cell n=>(M[n]?).map λ_=>"list"
 | .ob (.dct _)=>some "dict"
 | .ob _=>none
 | .dt _ _=>none
 |_=>some "list"
noncomputable def T.fv:T->Option V
 | .v x=>some x
 |_=>none
noncomputable def T.tx:T->Option PySem.Str
 | .v (.str y)=>some y
 |_=>none
noncomputable def zP(M:Mem)(x y:T):Option TB:=match y with
 | .v (.int i)=>(x.its M).bind λxs=>(ixN xs.length i).bind λj=>(xs[j]?).map λt=>(t,t.lf)
 |_=>none
noncomputable def qEd(x y:T):Option TB:=match y with
 | .v (.int i)=>match x.dts with
  |some q=>(qAP q.1 q.2 i).map λt=>(t,t.lf)
  |none=>x.dct.bind λkvs=>(QI kvs i).bind λv=>if flat v=true then some (.v v,true) else none
 |_=>none
noncomputable def qEW:List Nat->List T->TS->Option TS
 | [],[],σ=>some σ
 |i::is,x::xs,σ=>qEW is xs (σ.set i (some x))
 |_,_,_=>none
noncomputable def zN:Tg->T->TS->Option TS
 | .name i,t,σ=>some (σ.set i (some t))
 | .tup is,.tup ts,σ=>qEW is ts σ
 | .tup _,_,_=>none
noncomputable def jG(src:List (Option Nat))(σ:TS):TS:=src.map λo=>match o with|none=>none|some j=>(σ[j]?).join
noncomputable def jQ(lo:Int)(n:Nat):List T:=(List.range n).map λ(i:Nat)=>.v (.int (lo+(i:Int)))
noncomputable def ZE(M:Mem):T->Option (List T×QK)
 | .lst ts=>some (ts,[])
 | .fz ts=>some (ts,[])
 | .tup ts=>some (ts,[])
 | .cell n=>(M[n]?).map λts=>(ts,[(n,ts)])
 |_=>none
noncomputable def qAi(M:Mem):T->Option (List T×QK)
 | .lst ts=>some (ts,[])
 | .fz ts=>some (ts,[])
 | .cell n=>(M[n]?).map λts=>(ts,[(n,ts)])
 |_=>none
noncomputable def jt:Nat->List T->List T
 |_,[]=>[]
 |i,t::ts=>.tup [.v (.int (i:Int)),t]::jt (i+1) ts
noncomputable def qP(d:QK)(g:Tg)(c:TS->Mem->PR (Bool×Mem))(e:TS->Mem->PR (TB×Mem)):List T->List T->Bool->TS->Mem->PR (TB×Mem)
 | [],ys,f,_,M=>.ok ((.lst ys,f),M)
 |x::r,ys,f,σ,M=>match zN g x σ with
  |some σ1=>(c σ1 M).bind λ(b,M2)=>
   if b then (e σ1 M2).bind λ(y,M3)=>if ys.length<lim/\qe d M3=true then qP d g c e r (ys++[y.1]) (f&&y.2) σ1 M3 else .stuck
   else if qe d M2=true then qP d g c e r ys f σ1 M2 else .stuck
  |none=>.stuck
noncomputable def pB(r:PR (TB×Mem)):PR (Bool×Mem):=r.bind λ(x,M)=>match x.1 with | .v (.bl b)=>.ok (b,M)|_=>.stuck
section
variable (gl:List T)(P:Nat->List T->Mem->PR (TB×Mem))
mutual
noncomputable def pe:E->TS->Mem->PR (TB×Mem)
 | .var i=>λσ M=>match σ[i]? with|some (some t)=>.ok ((t,t.lf),M)|_=>.stuck
 | .cst v=>λ_ M=>if flat v then .ok ((.v v,true),M) else .stuck
 | .glob g=>λ_ M=>match gl[g]? with|some t=>.ok ((t,t.lf),M)|none=>.stuck
 | .bin op a b=>λσ M=>(pe a σ M).bind λ(x,M1)=>(pe b σ M1).bind λ(y,M2)=>(tH (qg M2 op x.1 y.1)).bind λr=>.ok (r,M2)
 | .neg a=>λσ M=>(pe a σ M).bind λ(x,M1)=>match x.1 with | .v (.int i)=>.ok (iT (-i),M1)|_=>.stuck
 | .cmp op a b=>λσ M=>(pe a σ M).bind λ(x,M1)=>(pe b σ M1).bind λ(y,M2)=>(tH (zB M2 op x.1 y.1)).bind λr=>.ok (bT r,M2)
 | .cmp2 o1 o2 a b c=>λσ M=>(pe a σ M).bind λ(x,M1)=>(pe b σ M1).bind λ(y,M2)=>(tH (zB M2 o1 x.1 y.1)).bind λr=>
  if r then (pe c σ M2).bind λ(z,M3)=>(tH (zB M3 o2 y.1 z.1)).bind λr=>.ok (bT r,M3) else .ok (bT false,M2)
 | .and a b=>λσ M=>(pB (pe a σ M)).bind λ(x,M1)=>if x then pe b σ M1 else .ok (bT false,M1)
 | .or a b=>λσ M=>(pB (pe a σ M)).bind λ(x,M1)=>if x then .ok (bT true,M1) else pe b σ M1
 | .not a=>λσ M=>(pB (pe a σ M)).bind λ(x,M1)=>.ok (bT (!x),M1)
 | .ite c a b=>λσ M=>(pB (pe c σ M)).bind λ(x,M1)=>if x then pe a σ M1 else pe b σ M1
 | .call f as=>λσ M=>(pes as σ M).bind λ(xs,M1)=>(P f (xs.map (·.1)) M1).nx
 | .blt f as=>λσ M=>(pes as σ M).bind λ(xs,M1)=>(tH (jS M1 f (xs.map (·.1)))).bind λr=>.ok (r,M1)
 | .isi a ts=>λσ M=>(pe a σ M).bind λ(x,M1)=>(tH (jA M1 x.1)).bind λt=>.ok (bT (ts.any (jY t)),M1)
 | .idx a b=>λσ M=>(pe a σ M).bind λ(x,M1)=>(pe b σ M1).bind λ(y,M2)=>(tH (zP M2 x.1 y.1)).bind λr=>.ok (r,M2)
 | .index a b=>λσ M=>(pe a σ M).bind λ(x,M1)=>(tH (x.1.sel a.isGlob M1)).bind λ_=>(pe b σ M1).bind λ(y,M2)=>(tH (D7 a.isGlob M2 x.1 y.1)).bind λr=>.ok (r,M2)
 | .sl a lo hi=>λσ M=>(pe a σ M).bind λ(x,M1)=>(pes lo σ M1).bind λ(l,M2)=>(pes hi σ M2).bind λ(u,M3)=>
  (tH (x.1.its M3)).bind λxs=>(tH (qk (l.map (·.1)))).bind λl=>(tH (qk (u.map (·.1)))).bind λu=>(tH (qA8 x.1 xs l.head? u.head?)).bind λr=>.ok (r,M3)
 | .lst as=>λσ M=>(pes as σ M).bind λ(xs,M1)=>if xs.length<=lim then .ok ((.lst (xs.map (·.1)),xs.all (·.2)),M1) else .stuck
 | .tup as=>λσ M=>(pes as σ M).bind λ(xs,M1)=>if xs.length<=lim then .ok ((.tup (xs.map (·.1)),xs.all (·.2)),M1) else .stuck
 | .comp it src g c e=>λσ M=>(pei it σ M).bind λ(s,M1)=>qP s.2 g (pec c) (pe e) s.1 [] true (jG src σ) M1
 | .app a b=>λσ M=>(pe a σ M).bind λ(x,M1)=>match x.1 with
  | .cell n=>(pe b σ M1).bind λ(y,M2)=>match M2[n]? with
   |some xs=>if xs.length<lim then .ok ((.v .non,true),M2.set n (xs++[y.1])) else .stuck
   |none=>.stuck
  |_=>.stuck
 | .dix a b=>λσ M=>(pe a σ M).bind λ(x,M1)=>(pe b σ M1).bind λ(y,M2)=>(tH (qEd x.1 y.1)).bind λr=>.ok (r,M2)
 | .dzip a b=>λσ M=>(pe a σ M).bind λ(x,M1)=>(pe b σ M1).bind λ(y,M2)=>(tH (x.1.lis M2)).bind λxs=>(tH (y.1.lis M2)).bind λys=>(tH (qk xs)).bind λis=>(tH (zX ys)).bind λvs=>
  if is.length<=lim/\vs.all flat=true then .ok ((.ob (.dct (zA [] (is.zip vs))),true),M2) else .stuck
 | .dlst _=>λ_ _=>.stuck
 | .dnew=>λ_ M=>.ok ((.ob (.dct []),true),M)
noncomputable def pes:Es->TS->Mem->PR (List TB×Mem)
 | .nil=>λ_ M=>.ok ([],M)
 | .cons a as=>λσ M=>(pe a σ M).bind λ(x,M1)=>(pes as σ M1).bind λ(xs,M2)=>.ok (x::xs,M2)
noncomputable def pec:Es->TS->Mem->PR (Bool×Mem)
 | .nil=>λ_ M=>.ok (true,M)
 | .cons a _=>λσ M=>pB (pe a σ M)
noncomputable def pei:Itr->TS->Mem->PR ((List T×QK)×Mem)
 | .list a=>λσ M=>(pe a σ M).bind λ(x,M1)=>(tH (ZE M1 x.1)).bind λs=>.ok (s,M1)
 | .rng1 a=>λσ M=>(pe a σ M).bind λ(x,M1)=>match x.1 with | .v (.int j)=>if -1000000<=j/\j<=1000000 then .ok ((jQ 0 j.toNat,[]),M1) else .stuck|_=>.stuck
 | .enum a=>λσ M=>(pe a σ M).bind λ(x,M1)=>(tH (qAi M1 x.1)).bind λs=>.ok ((jt 0 s.1,s.2),M1)
end
inductive PO|nx(σ:TS)|rt(t:TB)|bk(σ:TS)|ct(σ:TS)
noncomputable abbrev RSt:=PR (PO×Mem)
noncomputable def zJ(d:QK)(g:Tg)(b:TS->Mem->RSt):List T->TS->Mem->RSt
 | [],σ,M=>.ok (.nx σ,M)
 |x::r,σ,M=>match zN g x σ with
  |some σ1=>(b σ1 M).bind λ(o,M2)=>match o with
   | .nx σ2=>if qe d M2=true then zJ d g b r σ2 M2 else .stuck
   | .ct σ2=>if qe d M2=true then zJ d g b r σ2 M2 else .stuck
   | .bk σ2=>.ok (.nx σ2,M2)
   | .rt t=>.ok (.rt t,M2)
  |none=>.stuck
mutual
noncomputable def thaw(n:Nat):T->T×Mem
 | .lst ts=>let r:=jw n ts;(.cell (n+r.2.length),r.2++[r.1])
 | .tup ts=>let r:=jw n ts;(.tup r.1,r.2)
 |t=>(t,[])
noncomputable def jw(n:Nat):List T->List T×Mem
 | []=>([],[])
 |t::ts=>let r:=thaw n t;let q:=jw (n+r.2.length) ts;(r.1::q.1,r.2++q.2)
end
noncomputable def qC6:E->Bool
 | .bin .add _ _=>true
 | .lst _=>true
 |_=>false
variable (C:List Nat)
mutual
noncomputable def px:S->TS->Mem->RSt
 | .asg g e=>λσ M=>(pe gl P e σ M).bind λ(x,M1)=>match g with
  | .name i=>if C.contains i&&x.2 then .ok (.nx (σ.set i (some (thaw M1.length x.1).1)),M1++(thaw M1.length x.1).2) else if C.contains (i+1000)&&qC6 e then (match x.1 with | .lst ts=>.ok (.nx (σ.set i (some (.cell M1.length))),M1++[ts])|_=>.stuck) else .ok (.nx (σ.set i (some x.1)),M1)
  |g=>match zN g x.1 σ with|some σ1=>.ok (.nx σ1,M1)|none=>.stuck
 | .put o i v=>λσ M=>(pe gl P v σ M).bind λ(x,M1)=>(pe gl P o σ M1).bind λ(p,M2)=>(pe gl P i σ M2).bind λ(k,M3)=>match p.1,k.1 with
  | .cell n,.v (.int k)=>match M3[n]? with
   |some xs=>match ixN xs.length k with|some j=>.ok (.nx σ,M3.set n (xs.set j x.1))|none=>.stuck
   |none=>.stuck
  |_,_=>.stuck
 | .expr e=>λσ M=>(pe gl P e σ M).bind λ(_,M1)=>.ok (.nx σ,M1)
 | .ret e=>λσ M=>(pe gl P e σ M).bind λ(x,M1)=>.ok (.rt x,M1)
 | .ifs c t u=>λσ M=>(pB (pe gl P c σ M)).bind λ(x,M1)=>if x then pxs t σ M1 else pxs u σ M1
 | .for_ g it b=>λσ M=>(pei gl P it σ M).bind λ(s,M1)=>zJ s.2 g (pxs b) s.1 σ M1
 | .stop=>λ_ _=>.stuck
 | .dfor _ _ _=>λ_ _=>.stuck
 | .orc=>λ_ _=>.stuck
noncomputable def pxs:Ss->TS->Mem->RSt
 | .nil=>λσ M=>.ok (.nx σ,M)
 | .cons s r=>λσ M=>(px s σ M).bind λ(o,M1)=>match o with
  | .nx σ1=>pxs r σ1 M1
  |o=>.ok (o,M1)
end
end
noncomputable def qR(M:Mem)(n0:Nat):Nat->T->Option T
 | 0,t=>if t.und n0 then some t else none
 |d+1,t=>if t.und n0 then some t else match t with
  | .lst ts=>(ts.mapM (qR M n0 d)).map .lst
  | .tup ts=>(ts.mapM (qR M n0 d)).map .tup
  | .cell n=>(M[n]?).bind λts=>(ts.mapM (qR M n0 d)).map .lst
  |_=>none
noncomputable def jP(M:Mem)(n0:Nat):Nat->T->Option (List Nat)
 | 0,t=>if t.lf then some [] else none
 |d+1,t=>if t.lf then some [] else match t with
  | .tup ts=>(ts.mapM (jP M n0 d)).map List.flatten
  | .cell n=>if n0<=n then (M[n]?).bind λts=>(ts.mapM (jP M n0 d)).map λl=>l.flatten++[n] else none
  |_=>none
noncomputable def frR(M:Mem)(n0:Nat)(t:T):Bool:=match jP M n0 6 t with|some l=>decide l.Nodup|none=>false
noncomputable def finish(n0:Nat)(x:TB)(M:Mem):PR (TB×Mem):=
 if M.length=n0 then .ok (x,M) else if (M.take n0).all (T.unds n0) then (tH (qR M n0 6 x.1)).bind λt=>.ok ((t,x.2||frR M n0 x.1),M.take n0) else .stuck
noncomputable def Zz(n0:Nat):RSt->PR (TB×Mem)
 | .ok (.nx _,M1)=>finish n0 (.v .non,true) M1
 | .ok (.rt t,M1)=>finish n0 t M1
 | .ok (_,_)=>.stuck
 | .exc c M1=>if M1.length=n0 then .exc c M1 else if (M1.take n0).all (T.unds n0) then .exc c (M1.take n0) else .stuck
 | .stuck=>.stuck
noncomputable abbrev NP:=Nat×Nat
noncomputable def both(a b:NP):NP:=(a.1 ^^^ b.1,a.2 ^^^ b.2)
noncomputable def qW(told:List (Nat×NP))(one:NP):NP:=told.foldl (λone q=>if one.1.testBit q.1=true then both one q.2 else one) one
noncomputable def qZ(m:Nat):List Nat:=(List.range (PySem.Builtin.Int.intBits (m:Nat))).filter λn=>m.testBit n
noncomputable def JG(m:Nat):Nat:=(qZ m).headD 0
noncomputable def l7(told:List (Nat×NP))(k:Nat)(v:NP):List (Nat×NP):=if (told.any λq=>decide (q.1=k))=true then told.map (λq=>if q.1=k then (q.1,v) else q) else told++[(k,v)]
noncomputable def jo(f:Nat)(l:NP)(told:List (Nat×NP)):List (Nat×NP):=told.map λq=>if q.2.1.testBit f=true then (q.1,both q.2 l) else q
noncomputable def qu(told:List (Nat×NP))(free:Nat)(one:NP):List (Nat×NP)×NP:=
 let l:=qW told one
 if l.1&&& free=0 then (told,l) else (l7 (jo (JG (l.1&&& free)) l told) (JG (l.1&&& free)) l,l)
noncomputable def zF(free:Nat)(st:List (Nat×NP)×List NP)(one:NP):List (Nat×NP)×List NP:=((qu st.1 free one).1,if (qu st.1 free one).2.1&&& free=0 then st.2++[(qu st.1 free one).2] else st.2)
noncomputable def Qq(free:Nat)(sums:List NP):List (Nat×NP)×List NP:=sums.foldl (zF free) ([],[])
noncomputable def qK(l:List Nat):Nat:=(l.map λn=>2 ^ n).sum
noncomputable def nmT(n:Nat):T:=.v (.int (n:Nat))
noncomputable def pT(q:NP):T:=.tup [nmT q.1,nmT q.2]
noncomputable def Q0(told:List (Nat×NP)):T:=if told.isEmpty then .ob (.dct []) else .dt (told.map λq=>((q.1:Nat):Int)) (told.map λq=>pT q.2)
noncomputable def qj:List T->Option (List Nat)
 | []=>some []
 | .v (.int i)::r=>if 0<=i then (qj r).map (i.toNat::·) else none
 |_::_=>none
noncomputable def jE(t:T):Option NP:=match t with
 | .tup ts=>(match qj ts with|some [a,b]=>some (a,b)|_=>none)
 |_=>none
noncomputable def T.lst0:T->Option (List T) | .lst xs=>some xs | .fz xs=>some xs|_=>none
noncomputable def qD6(ts:List T)(M:Mem):PR (TB×Mem):=match ts with
 | [code,sums]=>(tH ((code.its M).bind λxs=>(xs[1]?).bind λt=>(t.lis M).bind qj)).bind λfr=>(tH (sums.lst0.bind λxs=>xs.mapM jE)).bind λps=>
  if (fr.all λn=>decide (n<1000))=true/\qK fr<2 ^ 1000/\ps.length<1000/\fr.length<1000 then .ok ((.tup [Q0 (Qq (qK fr) ps).1,.lst ((Qq (qK fr) ps).2.map pT)],false),M) else .stuck
 |_=>.stuck
noncomputable def Pk(gl:List T)(tb:List Fn)(Cs:List (List Nat)):Nat->Nat->List T->Mem->PR (TB×Mem)
 | 0,_,_,_=>.stuck
 |k+1,f,vs,M=>match tb[f]? with
  |some d=>if ZZ d.body=true then (if 8<=k then qD6 vs M else .stuck) else if vs.length=d.npar/\d.npar<=d.nslot then Zz M.length (pxs gl (Pk gl tb Cs k) (Cs.getD f []) d.body (vs.map some++List.replicate (d.nslot-d.npar) none) M)
   else .stuck
  |none=>.stuck
def jb{α β:Type}(R:α->β->Prop):List α->List β->Prop
 | [],vs=>vs=[]
 |t::ts,vs=>∃v vs',vs=v::vs'/\R t v/\jb R ts vs'
section
variable{α β:Type}{R:α->β->Prop}
theorem qG:∀{xs:List α}{ys:List β},jb R xs ys->xs.length=ys.length
 | [],_,h=>by cases h;rfl
 |x::xs,_,⟨v,vs,rfl,_,h⟩=>by simp[qG h]
theorem zT:∀{xs:List α}{ys:List β}{i:Nat}{x:α},jb R xs ys->xs[i]?=some x->∃y,ys[i]?=some y/\R x y
 | [],_,i,x,h,e=>by simp at e
 |x::xs,_,0,x',⟨v,vs,rfl,r,h⟩,e=>⟨v,rfl,by simp at e;subst e;exact r⟩
 |x::xs,_,i+1,x',⟨v,vs,rfl,r,h⟩,e=>by
  obtain⟨y,e1,r1⟩:=zT (i:=i) h (by simpa using e);exact⟨y,by simpa using e1,r1⟩
theorem zQ:∀{xs:List α}{ys:List β}{xs':List α}{ys':List β},jb R xs ys->jb R xs' ys'->jb R (xs++xs') (ys++ys')
 | [],_,_,_,h,k=>by cases h;exact k
 |x::xs,_,_,_,⟨v,vs,rfl,r,h⟩,k=>⟨v,vs++_,rfl,r,zQ h k⟩
theorem jd:∀(n:Nat){xs:List α}{ys:List β},jb R xs ys->jb R (xs.take n) (ys.take n)
 | 0,_,_,_=>by simp[jb]
 |n+1,[],_,h=>by cases h;simp[jb]
 |n+1,x::xs,_,⟨v,vs,rfl,r,h⟩=>⟨v,vs.take n,rfl,r,jd n h⟩
theorem JZ:∀(n:Nat){xs:List α}{ys:List β},jb R xs ys->jb R (xs.drop n) (ys.drop n)
 | 0,_,_,h=>h
 |n+1,[],_,h=>by cases h;simp[jb]
 |n+1,x::xs,_,⟨v,vs,rfl,r,h⟩=>JZ n h
theorem jK:∀{xs:List α}{ys:List β}(j:Nat){x:α}{y:β},jb R xs ys->R x y->jb R (xs.set j x) (ys.set j y)
 | [],_,j,_,_,h,r=>by cases h;simp[jb]
 |x::xs,_,0,_,_,⟨v,vs,rfl,r0,h⟩,r=>⟨_,vs,rfl,r,h⟩
 |x::xs,_,j+1,_,_,⟨v,vs,rfl,r0,h⟩,r=>⟨v,vs.set j _,rfl,r0,jK j h r⟩
theorem m8(n:Nat){xs:List α}{ys:List β}(h:jb R xs ys):jb R (List.replicate n xs).flatten (List.replicate n ys).flatten:=by
 induction n with
 |zero=>simp[jb]
 |succ n ih=>simp only[List.replicate_succ,List.flatten_cons];exact zQ h ih
theorem qx{S:α->β->Prop}(f:∀x y,R x y->S x y):∀{xs:List α}{ys:List β},jb R xs ys->jb S xs ys
 | [],_,h=>h
 |x::xs,_,⟨v,vs,rfl,r,h⟩=>⟨v,vs,rfl,f _ _ r,qx f h⟩
end
theorem c8{α β:Type}:∀{ks js:List α}{vs us:List β},ks.length=vs.length->js.length=us.length->ks.zip vs=js.zip us->ks=js/\vs=us
 | [],[],[],[],_,_,_=>⟨rfl,rfl⟩
 | [],_::_,[],_::_,_,_,e=>by cases e
 |_::_,[],_::_,[],_,_,e=>by cases e
 |k::ks,j::js,v::vs,u::us,h1,h2,e=>by
  rw[List.zip_cons_cons,List.zip_cons_cons]at e;injection e with e1 e2;injection e1 with e3 e4;obtain⟨rfl,rfl⟩:=c8 (by simpa using h1) (by simpa using h2) e2;rw[e3,e4];exact⟨rfl,rfl⟩
theorem qAz{ks:List Int}:∀{vs:List V},ks.length=vs.length->(vs.any λv=>!flat v)=true->(Ob.dct (ks.zip vs)).fl=true->False:=by
 induction ks with
 |nil=>intro vs h1 h2 _;cases vs with
  |nil=>cases h2
  |cons=>cases h1
 |cons k ks ih=>
  intro vs h1 h2 h3;cases vs with
  |nil=>cases h1
  |cons v vs=>
   rw[List.any_cons,vf]at h2;have h3:(flat v&&(ks.zip vs).all λp=>flat p.2)=true:=h3;rw[wE]at h3;rcases h2 with h2|h2
   ·rw[h3.1]at h2;cases h2
   ·exact ih (by simpa using h1) h2 h3.2
mutual
def Rep(A X:List Nat)(h:AH):T->V->Prop
 | .v x,w=>w=x/\flat x=true
 | .cell n,w=>∃a:Nat,A[n]?=some a/\w=.ref a
 | .fz ts,w=>∃a vs,w=.ref a/\a∉X/\h[a]?=some (.lst true vs)/\qM A X h ts vs
 | .lst ts,w=>∃a vs,w=.ref a/\a∉X/\h[a]?=some (.lst false vs)/\qM A X h ts vs
 | .tup ts,w=>∃a vs,w=.ref a/\a∉X/\h[a]?=some (.tup vs)/\qM A X h ts vs
 | .ob o,w=>∃a,w=.ref a/\a∉X/\h[a]?=some (.ob o)/\o.fl=true
 | .dt ks ts,w=>∃a vs,w=.ref a/\a∉X/\h[a]?=some (.ob (.dct (ks.zip vs)))/\(ks.length=vs.length/\(vs.any λv=>!flat v)=true)/\qM A X h ts vs
def qM(A X:List Nat)(h:AH):List T->List V->Prop
 | [],vs=>vs=[]
 |t::ts,vs=>∃v vs',vs=v::vs'/\Rep A X h t v/\qM A X h ts vs'
end
theorem reps_iff{A X:List Nat}{h:AH}:∀{ts:List T}{vs:List V},qM A X h ts vs↔jb (Rep A X h) ts vs
 | [],vs=>by unfold qM jb;rfl
 |t::ts,vs=>by
  unfold qM jb;constructor
  ·rintro⟨v,vs',e,r,k⟩;exact⟨v,vs',e,r,reps_iff.mp k⟩
  ·rintro⟨v,vs',e,r,k⟩;exact⟨v,vs',e,r,reps_iff.mpr k⟩
mutual
def FP(X:List Nat)(h:AH):T->V->List Nat->Prop
 | .v x,w,fp=>(w=x/\flat x=true)/\fp=[]
 | .lst ts,w,fp=>∃a vs f,w=.ref a/\a∉X/\h[a]?=some (.lst false vs)/\FPs X h ts vs f/\fp=f++[a]
 | .tup ts,w,fp=>∃a vs,w=.ref a/\a∉X/\h[a]?=some (.tup vs)/\FPs X h ts vs fp
 | .ob o,w,fp=>(∃a,w=.ref a/\a∉X/\h[a]?=some (.ob o)/\o.fl=true)/\fp=[]
 | .dt _ _,_,_=>False
 | .fz _,_,_=>False
 | .cell _,_,_=>False
def FPs(X:List Nat)(h:AH):List T->List V->List Nat->Prop
 | [],vs,fp=>vs=[]/\fp=[]
 |t::ts,vs,fp=>∃v vs' f1 f2,vs=v::vs'/\FP X h t v f1/\FPs X h ts vs' f2/\fp=f1++f2
end
mutual
theorem za{A X A' X':List Nat}{h h':AH}(hc:∀(n:Nat) a,A[n]?=some a->A'[n]?=some a)(hn:∀a o,a∉X->h[a]?=some o->a∉X'/\h'[a]?=some o):∀(t:T){w:V},Rep A X h t w->Rep A' X' h' t w
 | .v x,w,r=>by unfold Rep at r ⊢;exact r
 | .cell n,w,r=>by unfold Rep at r ⊢;obtain⟨a,e,q⟩:=r;exact⟨a,hc _ _ e,q⟩
 | .fz ts,w,r=>by unfold Rep at r ⊢;obtain⟨a,vs,e,q1,q2,q3⟩:=r;exact⟨a,vs,e,(hn _ _ q1 q2).1,(hn _ _ q1 q2).2,qQ hc hn ts q3⟩
 | .lst ts,w,r=>by unfold Rep at r ⊢;obtain⟨a,vs,e,q1,q2,q3⟩:=r;exact⟨a,vs,e,(hn _ _ q1 q2).1,(hn _ _ q1 q2).2,qQ hc hn ts q3⟩
 | .tup ts,w,r=>by unfold Rep at r ⊢;obtain⟨a,vs,e,q1,q2,q3⟩:=r;exact⟨a,vs,e,(hn _ _ q1 q2).1,(hn _ _ q1 q2).2,qQ hc hn ts q3⟩
 | .ob o,w,r=>by unfold Rep at r ⊢;obtain⟨a,e,q1,q2,q3⟩:=r;exact⟨a,e,(hn _ _ q1 q2).1,(hn _ _ q1 q2).2,q3⟩
 | .dt ks ts,w,r=>by unfold Rep at r ⊢;obtain⟨a,vs,e,q1,q2,q4,q3⟩:=r;exact⟨a,vs,e,(hn _ _ q1 q2).1,(hn _ _ q1 q2).2,q4,qQ hc hn ts q3⟩
theorem qQ{A X A' X':List Nat}{h h':AH}(hc:∀(n:Nat) a,A[n]?=some a->A'[n]?=some a)(hn:∀a o,a∉X->h[a]?=some o->a∉X'/\h'[a]?=some o):∀(ts:List T){ws:List V},qM A X h ts ws->qM A' X' h' ts ws
 | [],w,r=>by unfold qM at r ⊢;exact r
 |t::ts,w,r=>by unfold qM at r ⊢;obtain⟨v,vs,e,q1,q2⟩:=r;exact⟨v,vs,e,za hc hn t q1,qQ hc hn ts q2⟩
end
mutual
theorem ZX{X X':List Nat}{h h':AH}(hn:∀a o,a∉X->h[a]?=some o->a∉X'/\h'[a]?=some o):∀(t:T){w:V}{fp:List Nat},FP X h t w fp->FP X' h' t w fp
 | .v x,w,_,r=>by unfold FP at r ⊢;exact r
 | .cell n,w,_,r=>by unfold FP at r;exact r.elim
 | .fz ts,w,_,r=>by unfold FP at r;exact r.elim
 | .lst ts,w,_,r=>by unfold FP at r ⊢;obtain⟨a,vs,f,e,q1,q2,q3,q4⟩:=r;exact⟨a,vs,f,e,(hn _ _ q1 q2).1,(hn _ _ q1 q2).2,zt hn ts q3,q4⟩
 | .tup ts,w,_,r=>by unfold FP at r ⊢;obtain⟨a,vs,e,q1,q2,q3⟩:=r;exact⟨a,vs,e,(hn _ _ q1 q2).1,(hn _ _ q1 q2).2,zt hn ts q3⟩
 | .ob o,w,_,r=>by unfold FP at r ⊢;obtain⟨⟨a,e,q1,q2,q4⟩,q3⟩:=r;exact⟨⟨a,e,(hn _ _ q1 q2).1,(hn _ _ q1 q2).2,q4⟩,q3⟩
 | .dt _ _,w,_,r=>by unfold FP at r;exact r.elim
theorem zt{X X':List Nat}{h h':AH}(hn:∀a o,a∉X->h[a]?=some o->a∉X'/\h'[a]?=some o):∀(ts:List T){ws:List V}{fp:List Nat},FPs X h ts ws fp->FPs X' h' ts ws fp
 | [],w,_,r=>by unfold FPs at r ⊢;exact r
 |t::ts,w,_,r=>by unfold FPs at r ⊢;obtain⟨v,vs,f1,f2,e,q1,q2,q3⟩:=r;exact⟨v,vs,f1,f2,e,ZX hn t q1,zt hn ts q2,q3⟩
end
mutual
theorem qD3{A X:List Nat}{h:AH}:∀(t:T){w:V}{fp:List Nat},FP X h t w fp->Rep A X h t w
 | .v x,w,_,r=>by unfold FP at r;unfold Rep;exact r.1
 | .cell n,w,_,r=>by unfold FP at r;exact r.elim
 | .fz ts,w,_,r=>by unfold FP at r;exact r.elim
 | .lst ts,w,_,r=>by unfold FP at r;unfold Rep;obtain⟨a,vs,f,e,q1,q2,q3,q4⟩:=r;exact⟨a,vs,e,q1,q2,A6 ts q3⟩
 | .tup ts,w,_,r=>by unfold FP at r;unfold Rep;obtain⟨a,vs,e,q1,q2,q3⟩:=r;exact⟨a,vs,e,q1,q2,A6 ts q3⟩
 | .ob o,w,_,r=>by unfold FP at r;unfold Rep;exact r.1
 | .dt _ _,w,_,r=>by unfold FP at r;exact r.elim
theorem A6{A X:List Nat}{h:AH}:∀(ts:List T){ws:List V}{fp:List Nat},FPs X h ts ws fp->qM A X h ts ws
 | [],w,_,r=>by unfold FPs at r;unfold qM;exact r.1
 |t::ts,w,_,r=>by unfold FPs at r;unfold qM;obtain⟨v,vs,f1,f2,e,q1,q2,q3⟩:=r;exact⟨v,vs,e,qD3 t q1,A6 ts q2⟩
end
mutual
theorem qA3{X:List Nat}{h:AH}(n:Nat):∀(t:T){w:V}{fp:List Nat},FP X h t w fp->t.und n=true
 | .v x,w,_,r=>rfl
 | .cell n,w,_,r=>by unfold FP at r;exact r.elim
 | .fz ts,w,_,r=>by unfold FP at r;exact r.elim
 | .lst ts,w,_,r=>by unfold FP at r;obtain⟨a,vs,f,e,q1,q2,q3,q4⟩:=r;exact A5 n ts q3
 | .tup ts,w,_,r=>by unfold FP at r;obtain⟨a,vs,e,q1,q2,q3⟩:=r;exact A5 n ts q3
 | .ob o,w,_,r=>rfl
 | .dt _ _,w,_,r=>by unfold FP at r;exact r.elim
theorem A5{X:List Nat}{h:AH}(n:Nat):∀(ts:List T){ws:List V}{fp:List Nat},FPs X h ts ws fp->T.unds n ts=true
 | [],w,_,r=>rfl
 |t::ts,w,_,r=>by unfold FPs at r;obtain⟨v,vs,f1,f2,e,q1,q2,q3⟩:=r;unfold T.unds;rw[qA3 n t q1,A5 n ts q2];rfl
end
mutual
theorem F6{X:List Nat}{h:AH}:∀(t:T){w:V}{fp:List Nat},FP X h t w fp->∀a∈fp,a∉X/\∃vs,h[a]?=some (.lst false vs)
 | .v x,w,_,r=>by unfold FP at r;obtain⟨_,rfl⟩:=r;intro a ha;simp at ha
 | .cell n,w,_,r=>by unfold FP at r;exact r.elim
 | .fz ts,w,_,r=>by unfold FP at r;exact r.elim
 | .lst ts,w,_,r=>by
  unfold FP at r;obtain⟨a,vs,f,e,q1,q2,q3,rfl⟩:=r;intro b hb;rcases wF.mp hb with hb|hb
  ·exact ju ts q3 b hb
  ·simp at hb;subst hb;exact⟨q1,vs,q2⟩
 | .tup ts,w,_,r=>by unfold FP at r;obtain⟨a,vs,e,q1,q2,q3⟩:=r;exact ju ts q3
 | .ob o,w,_,r=>by unfold FP at r;obtain⟨_,rfl⟩:=r;intro a ha;simp at ha
 | .dt _ _,w,_,r=>by unfold FP at r;exact r.elim
theorem ju{X:List Nat}{h:AH}:∀(ts:List T){ws:List V}{fp:List Nat},FPs X h ts ws fp->∀a∈fp,a∉X/\∃vs,h[a]?=some (.lst false vs)
 | [],w,_,r=>by unfold FPs at r;obtain⟨_,rfl⟩:=r;intro a ha;simp at ha
 |t::ts,w,_,r=>by
  unfold FPs at r;obtain⟨v,vs,f1,f2,e,q1,q2,rfl⟩:=r;intro b hb;rcases wF.mp hb with hb|hb
  ·exact F6 t q1 b hb
  ·exact ju ts q2 b hb
end
mutual
theorem qCA{A X:List Nat}{h:AH}:∀(t:T){w:V},Rep A X h t w->t.lf=true->FP X h t w []
 | .v x,w,r,l=>by unfold Rep at r;unfold FP;exact⟨r,rfl⟩
 | .cell n,w,r,l=>by unfold T.lf at l;cases l
 | .fz ts,w,r,l=>by unfold T.lf at l;cases l
 | .lst ts,w,r,l=>by unfold T.lf at l;cases l
 | .tup ts,w,r,l=>by unfold Rep at r;unfold FP;obtain⟨a,vs,e,q1,q2,q3⟩:=r;exact⟨a,vs,e,q1,q2,V7 ts q3 (by unfold T.lf at l;exact l)⟩
 | .ob o,w,r,l=>by unfold Rep at r;unfold FP;exact⟨r,rfl⟩
 | .dt _ _,w,r,l=>by unfold T.lf at l;cases l
theorem V7{A X:List Nat}{h:AH}:∀(ts:List T){ws:List V},qM A X h ts ws->T.lfs ts=true->FPs X h ts ws []
 | [],w,r,l=>by unfold qM at r;unfold FPs;exact⟨r,rfl⟩
 |t::ts,w,r,l=>by
  unfold qM at r;unfold FPs;obtain⟨v,vs,e,q1,q2⟩:=r;unfold T.lfs at l;simp only[wE]at l;exact⟨v,vs,[],[],e,qCA t q1 l.1,V7 ts q2 l.2,rfl⟩
end
mutual
theorem c7{A X A1 X1:List Nat}{h:AH}{n0:Nat}(hc:∀n,n<n0->A1[n]?=A[n]?)(hX:∀a∈X,a∈X1):∀(t:T){w:V},Rep A1 X1 h t w->t.und n0=true->Rep A X h t w
 | .v x,w,r,u=>by unfold Rep at r ⊢;exact r
 | .cell n,w,r,u=>by
  unfold Rep at r ⊢;obtain⟨a,e,q⟩:=r;unfold T.und at u;exact⟨a,(hc n (by simpa using u)).symm.trans e,q⟩
 | .fz ts,w,r,u=>by unfold Rep at r ⊢;obtain⟨a,vs,e,q1,q2,q3⟩:=r;exact⟨a,vs,e,λz=>q1 (hX _ z),q2,jM hc hX ts q3 (by unfold T.und at u;exact u)⟩
 | .lst ts,w,r,u=>by unfold Rep at r ⊢;obtain⟨a,vs,e,q1,q2,q3⟩:=r;exact⟨a,vs,e,λz=>q1 (hX _ z),q2,jM hc hX ts q3 (by unfold T.und at u;exact u)⟩
 | .tup ts,w,r,u=>by unfold Rep at r ⊢;obtain⟨a,vs,e,q1,q2,q3⟩:=r;exact⟨a,vs,e,λz=>q1 (hX _ z),q2,jM hc hX ts q3 (by unfold T.und at u;exact u)⟩
 | .ob o,w,r,u=>by unfold Rep at r ⊢;obtain⟨a,e,q1,q2,q3⟩:=r;exact⟨a,e,λz=>q1 (hX _ z),q2,q3⟩
 | .dt ks ts,w,r,u=>by unfold Rep at r ⊢;obtain⟨a,vs,e,q1,q2,q4,q3⟩:=r;exact⟨a,vs,e,λz=>q1 (hX _ z),q2,q4,jM hc hX ts q3 (by unfold T.und at u;exact u)⟩
theorem jM{A X A1 X1:List Nat}{h:AH}{n0:Nat}(hc:∀n,n<n0->A1[n]?=A[n]?)(hX:∀a∈X,a∈X1):∀(ts:List T){ws:List V},qM A1 X1 h ts ws->T.unds n0 ts=true->qM A X h ts ws
 | [],w,r,u=>by unfold qM at r ⊢;exact r
 |t::ts,w,r,u=>by
  unfold qM at r ⊢;obtain⟨v,vs,e,q1,q2⟩:=r;unfold T.unds at u;simp only[wE]at u;exact⟨v,vs,e,c7 hc hX t q1 u.1,jM hc hX ts q2 u.2⟩
end
theorem zu{x:V}{a:Nat}(h:flat x=true)(e:V.ref a=x):False:=by subst e;cases h
mutual
theorem f9{A X:List Nat}{h:AH}(nd:A.Nodup)(hs:∀a∈A,a∈X):∀(s t:T){w:V},Rep A X h s w->Rep A X h t w->s=t
 | .v x,t,w,r,q=>by
  unfold Rep at r;obtain⟨rfl,f⟩:=r;cases t with
  |v y=>unfold Rep at q;obtain⟨rfl,_⟩:=q;rfl
  |cell n=>unfold Rep at q;obtain⟨a,_,e⟩:=q;subst e;cases f
  |fz ts=>unfold Rep at q;obtain⟨a,vs,e,_⟩:=q;subst e;cases f
  |lst ts=>unfold Rep at q;obtain⟨a,vs,e,_⟩:=q;subst e;cases f
  |tup ts=>unfold Rep at q;obtain⟨a,vs,e,_⟩:=q;subst e;cases f
  |ob o=>unfold Rep at q;obtain⟨a,e,_⟩:=q;subst e;cases f
  |dt ks ts=>unfold Rep at q;obtain⟨a,vs,e,_⟩:=q;subst e;cases f
 | .cell n,t,w,r,q=>by
  unfold Rep at r;obtain⟨a,ea,rfl⟩:=r;have am:a∈X:=hs _ (wT ea);cases t with
  |v y=>unfold Rep at q;obtain⟨e,f⟩:=q;exact(zu f e).elim
  |cell m=>
   unfold Rep at q;obtain⟨b,eb,e⟩:=q;cases e;have:n=m:=(List.getElem?_inj (by exact(wB.mp ea).1) nd).mp (ea.trans eb.symm);rw[this]
  |fz ts=>unfold Rep at q;obtain⟨b,vs,e,k,_⟩:=q;cases e;exact(k am).elim
  |lst ts=>unfold Rep at q;obtain⟨b,vs,e,k,_⟩:=q;cases e;exact(k am).elim
  |tup ts=>unfold Rep at q;obtain⟨b,vs,e,k,_⟩:=q;cases e;exact(k am).elim
  |ob o=>unfold Rep at q;obtain⟨b,e,k,_⟩:=q;cases e;exact(k am).elim
  |dt ks ts=>unfold Rep at q;obtain⟨b,vs,e,k,_⟩:=q;cases e;exact(k am).elim
 | .fz ss,t,w,r,q=>by
  unfold Rep at r;obtain⟨a,vs,rfl,k1,k2,k3⟩:=r;cases t with
  |v y=>unfold Rep at q;obtain⟨e,f⟩:=q;exact(zu f e).elim
  |cell m=>unfold Rep at q;obtain⟨b,eb,e⟩:=q;cases e;exact(k1 (hs _ (wT eb))).elim
  |fz ts=>unfold Rep at q;obtain⟨b,vs',e,z1,z2,z3⟩:=q;cases e;rw[k2]at z2;cases z2;rw[ji nd hs ss ts k3 z3]
  |lst ts=>unfold Rep at q;obtain⟨b,vs',e,z1,z2,z3⟩:=q;cases e;rw[k2]at z2;cases z2
  |tup ts=>unfold Rep at q;obtain⟨b,vs',e,z1,z2,z3⟩:=q;cases e;rw[k2]at z2;cases z2
  |ob o=>unfold Rep at q;obtain⟨b,e,z1,z2,_⟩:=q;cases e;rw[k2]at z2;cases z2
  |dt ks ts=>unfold Rep at q;obtain⟨b,vs',e,z1,z2,z3⟩:=q;cases e;rw[k2]at z2;cases z2
 | .lst ss,t,w,r,q=>by
  unfold Rep at r;obtain⟨a,vs,rfl,k1,k2,k3⟩:=r;cases t with
  |v y=>unfold Rep at q;obtain⟨e,f⟩:=q;exact(zu f e).elim
  |cell m=>unfold Rep at q;obtain⟨b,eb,e⟩:=q;cases e;exact(k1 (hs _ (wT eb))).elim
  |lst ts=>unfold Rep at q;obtain⟨b,vs',e,z1,z2,z3⟩:=q;cases e;rw[k2]at z2;cases z2;rw[ji nd hs ss ts k3 z3]
  |fz ts=>unfold Rep at q;obtain⟨b,vs',e,z1,z2,z3⟩:=q;cases e;rw[k2]at z2;cases z2
  |tup ts=>unfold Rep at q;obtain⟨b,vs',e,z1,z2,z3⟩:=q;cases e;rw[k2]at z2;cases z2
  |ob o=>unfold Rep at q;obtain⟨b,e,z1,z2,_⟩:=q;cases e;rw[k2]at z2;cases z2
  |dt ks ts=>unfold Rep at q;obtain⟨b,vs',e,z1,z2,z3⟩:=q;cases e;rw[k2]at z2;cases z2
 | .tup ss,t,w,r,q=>by
  unfold Rep at r;obtain⟨a,vs,rfl,k1,k2,k3⟩:=r;cases t with
  |v y=>unfold Rep at q;obtain⟨e,f⟩:=q;exact(zu f e).elim
  |cell m=>unfold Rep at q;obtain⟨b,eb,e⟩:=q;cases e;exact(k1 (hs _ (wT eb))).elim
  |tup ts=>unfold Rep at q;obtain⟨b,vs',e,z1,z2,z3⟩:=q;cases e;rw[k2]at z2;cases z2;rw[ji nd hs ss ts k3 z3]
  |fz ts=>unfold Rep at q;obtain⟨b,vs',e,z1,z2,z3⟩:=q;cases e;rw[k2]at z2;cases z2
  |lst ts=>unfold Rep at q;obtain⟨b,vs',e,z1,z2,z3⟩:=q;cases e;rw[k2]at z2;cases z2
  |ob o=>unfold Rep at q;obtain⟨b,e,z1,z2,_⟩:=q;cases e;rw[k2]at z2;cases z2
  |dt ks ts=>unfold Rep at q;obtain⟨b,vs',e,z1,z2,z3⟩:=q;cases e;rw[k2]at z2;cases z2
 | .ob o,t,w,r,q=>by
  unfold Rep at r;obtain⟨a,rfl,k1,k2,k3⟩:=r;cases t with
  |v y=>unfold Rep at q;obtain⟨e,f⟩:=q;exact(zu f e).elim
  |cell m=>unfold Rep at q;obtain⟨b,eb,e⟩:=q;cases e;exact(k1 (hs _ (wT eb))).elim
  |fz ts=>unfold Rep at q;obtain⟨b,vs',e,z1,z2,z3⟩:=q;cases e;rw[k2]at z2;cases z2
  |lst ts=>unfold Rep at q;obtain⟨b,vs',e,z1,z2,z3⟩:=q;cases e;rw[k2]at z2;cases z2
  |tup ts=>unfold Rep at q;obtain⟨b,vs',e,z1,z2,z3⟩:=q;cases e;rw[k2]at z2;cases z2
  |ob o'=>unfold Rep at q;obtain⟨b,e,z1,z2,_⟩:=q;cases e;rw[k2]at z2;cases z2;rfl
  |dt ks ts=>unfold Rep at q;obtain⟨b,vs',e,z1,z2,⟨zl,zf⟩,z3⟩:=q;cases e;rw[k2]at z2;cases z2;exact(qAz zl zf k3).elim
 | .dt ks ss,t,w,r,q=>by
  unfold Rep at r;obtain⟨a,vs,rfl,k1,k2,⟨kl,kf⟩,k3⟩:=r;cases t with
  |v y=>unfold Rep at q;obtain⟨e,f⟩:=q;exact(zu f e).elim
  |cell m=>unfold Rep at q;obtain⟨b,eb,e⟩:=q;cases e;exact(k1 (hs _ (wT eb))).elim
  |fz ts=>unfold Rep at q;obtain⟨b,vs',e,z1,z2,z3⟩:=q;cases e;rw[k2]at z2;cases z2
  |lst ts=>unfold Rep at q;obtain⟨b,vs',e,z1,z2,z3⟩:=q;cases e;rw[k2]at z2;cases z2
  |tup ts=>unfold Rep at q;obtain⟨b,vs',e,z1,z2,z3⟩:=q;cases e;rw[k2]at z2;cases z2
  |ob o=>unfold Rep at q;obtain⟨b,e,z1,z2,zf⟩:=q;cases e;rw[k2]at z2;cases z2;exact(qAz kl kf zf).elim
  |dt js ts=>
   unfold Rep at q;obtain⟨b,vs',e,z1,z2,⟨zl,_⟩,z3⟩:=q;cases e;rw[k2]at z2;have z4:ks.zip vs=js.zip vs':=by injection z2 with z;injection z with z;injection z
   obtain⟨rfl,rfl⟩:=c8 kl zl z4;rw[ji nd hs ss ts k3 z3]
theorem ji{A X:List Nat}{h:AH}(nd:A.Nodup)(hs:∀a∈A,a∈X):∀(ss ts:List T){ws:List V},qM A X h ss ws->qM A X h ts ws->ss=ts
 | [],[],w,r,q=>rfl
 | [],t::ts,w,r,q=>by unfold qM at r q;obtain⟨v,vs,e,_⟩:=q;subst r;cases e
 |s::ss,[],w,r,q=>by unfold qM at r q;obtain⟨v,vs,e,_⟩:=r;subst q;cases e
 |s::ss,t::ts,w,r,q=>by
  unfold qM at r q;obtain⟨v,vs,rfl,k1,k2⟩:=r;obtain⟨v',vs',e,z1,z2⟩:=q;cases e;rw[f9 nd hs s t k1 z1,ji nd hs ss ts k2 z2]
end
mutual
theorem qDw:∀(s t:T),T.beq s t=true->s=t
 | .v x,.v y,h=>by unfold T.beq at h;simp at h;rw[h]
 | .cell x,.cell y,h=>by unfold T.beq at h;simp at h;rw[h]
 | .fz x,.fz y,h=>by unfold T.beq at h;rw[jZ x y h]
 | .lst x,.lst y,h=>by unfold T.beq at h;rw[jZ x y h]
 | .tup x,.tup y,h=>by unfold T.beq at h;rw[jZ x y h]
 | .ob x,.ob y,h=>by unfold T.beq at h;simp at h;rw[h]
 | .dt ks x,.dt js y,h=>by unfold T.beq at h;simp only[wE,uJ]at h;rw[h.1,jZ x y h.2]
 | .dt _ _,.v _,h | .dt _ _,.cell _,h | .dt _ _,.fz _,h | .dt _ _,.lst _,h | .dt _ _,.tup _,h | .dt _ _,.ob _,h=>by simp[T.beq]at h
 | .v _,.dt _ _,h | .cell _,.dt _ _,h | .fz _,.dt _ _,h | .lst _,.dt _ _,h | .tup _,.dt _ _,h | .ob _,.dt _ _,h=>by simp[T.beq]at h
 | .ob _,.v _,h | .ob _,.cell _,h | .ob _,.fz _,h | .ob _,.lst _,h | .ob _,.tup _,h=>by simp[T.beq]at h
 | .v _,.ob _,h | .cell _,.ob _,h | .fz _,.ob _,h | .lst _,.ob _,h | .tup _,.ob _,h=>by simp[T.beq]at h
 | .v _,.cell _,h | .v _,.fz _,h | .v _,.lst _,h | .v _,.tup _,h=>by simp[T.beq]at h
 | .cell _,.v _,h | .cell _,.fz _,h | .cell _,.lst _,h | .cell _,.tup _,h=>by simp[T.beq]at h
 | .fz _,.v _,h | .fz _,.cell _,h | .fz _,.lst _,h | .fz _,.tup _,h=>by simp[T.beq]at h
 | .lst _,.v _,h | .lst _,.cell _,h | .lst _,.fz _,h | .lst _,.tup _,h=>by simp[T.beq]at h
 | .tup _,.v _,h | .tup _,.cell _,h | .tup _,.fz _,h | .tup _,.lst _,h=>by simp[T.beq]at h
theorem jZ:∀(ss ts:List T),T.beqs ss ts=true->ss=ts
 | [],[],h=>rfl
 | [],_::_,h=>by simp[T.beqs]at h
 |_::_,[],h=>by simp[T.beqs]at h
 |s::ss,t::ts,h=>by unfold T.beqs at h;simp only[wE]at h;rw[qDw s t h.1,jZ ss ts h.2]
end
def Frm(A:List Nat)(h h':AH):Prop:=h.length<=h'.length/\∀j,j<h.length->j∉A->h'[j]?=h[j]?
theorem Frm.refl(A:List Nat)(h:AH):Frm A h h:=⟨wM _,λ_ _ _=>rfl⟩
theorem Frm.trans{A:List Nat}{a b c:AH}(x:Frm A a b)(y:Frm A b c):Frm A a c:=⟨wS x.1 y.1,λj hj hA=>(y.2 j (wG hj x.1) hA).trans (x.2 j hj hA)⟩
theorem Frm.trans2{A B:List Nat}{a b c:AH}(x:Frm A a b)(hB:∀k∈B,a.length<=k)(y:Frm (A++B) b c):Frm A a c:=
 ⟨wS x.1 y.1,λj hj hA=>(y.2 j (wG hj x.1) (by rw[wF];rintro(z|z);exact hA z;have:=hB _ z;omega)).trans (x.2 j hj hA)⟩
theorem Frm.app(A:List Nat)(h e:AH):Frm A h (h++e):=⟨by simp,λj hj _=>by rw[wC hj]⟩
theorem Frm.set{A:List Nat}{h h':AH}(f:Frm A h h'){a:Nat}(ha:a∈A\/h.length<=a)(o:O):Frm A h (h'.set a o):=⟨by simpa using f.1,λj hj hA=>by
 rw[wX (by rintro rfl;rcases ha with z|z;exact hA z;omega)];exact f.2 j hj hA⟩
theorem qA{h:AH}{a:Nat}{o:O}(e:h[a]?=some o):a<h.length:=(wB.mp e).1
structure RelM(gl:List T)(A X:List Nat)(h:AH)(M:Mem):Prop where
 len:A.length=M.length
 nd:A.Nodup
 sub:∀a∈A,a∈X
 lt:∀a∈X,a<h.length
 at_:∀(n:Nat) a,A[n]?=some a->∃ts vs,M[n]?=some ts/\h[a]?=some (.lst false vs)/\qM A X h ts vs
 glo:∀(g:Nat) t,gl[g]?=some t->Rep A X h t (.ref g)
section
variable{gl:List T}{A X:List Nat}{h h':AH}{M:Mem}
theorem RelM.keepN(R:RelM gl A X h M)(f:Frm A h h'):∀a o,a∉X->h[a]?=some o->a∉X/\h'[a]?=some o:=λa o hx e=>⟨hx,(f.2 a (qA e) λz=>hx (R.sub _ z)).trans e⟩
theorem RelM.keep(R:RelM gl A X h M)(f:Frm A h h'){t:T}{w:V}(r:Rep A X h t w):Rep A X h' t w:=za (λ_ _ e=>e) (R.keepN f) t r
theorem RelM.keeps(R:RelM gl A X h M)(f:Frm A h h'){t:List T}{w:List V}(r:qM A X h t w):qM A X h' t w:=qQ (λ_ _ e=>e) (R.keepN f) t r
theorem RelM.up(R:RelM gl A X h M)(e:AH):RelM gl A X (h++e) M:=by
 have f:Frm A h (h++e):=Frm.app A h e;refine⟨R.len,R.nd,R.sub,λa ha=>wG (R.lt a ha) f.1,λn a ea=>?_,λg t eg=>R.keep f (R.glo g t eg)⟩;obtain⟨ts,vs,e1,e2,e3⟩:=R.at_ n a ea;exact⟨ts,vs,e1,by rw[wC (qA e2)];exact e2,R.keeps f e3⟩
theorem RelM.put(R:RelM gl A X h M){n a:Nat}(ea:A[n]?=some a){ts:List T}{vs:List V}(r:qM A X h ts vs):RelM gl A X (h.set a (.lst false vs)) (M.set n ts)/\Frm A h (h.set a (.lst false vs)):=by
 have am:a∈A:=wT ea;have f:Frm A h (h.set a (.lst false vs)):=(Frm.refl A h).set (.inl am) _;have al:a<h.length:=R.lt a (R.sub a am);refine⟨⟨by simpa using R.len,R.nd,R.sub,λb hb=>by simpa using R.lt b hb,λm b eb=>?_,λg t eg=>R.keep f (R.glo g t eg)⟩,f⟩;by_cases hm:n=m
 ·subst hm;rw[ea]at eb;cases eb;have nl:n<M.length:=by rw[<-R.len];exact(wB.mp ea).1
  exact⟨ts,vs,by rw[wb nl],by rw[wb al],R.keeps f r⟩
 ·obtain⟨ts',vs',e1,e2,e3⟩:=R.at_ m b eb;have hab:a≠b:=by
   rintro rfl;exact hm ((List.getElem?_inj (wB.mp ea).1 R.nd).mp (ea.trans eb.symm))
  exact⟨ts',vs',by rw[wX hm];exact e1,by rw[wX hab];exact e2,R.keeps f e3⟩
end
def New(gl:List T)(A X:List Nat)(n:Nat)(h:AH)(M:Mem)(t:T)(w:V):Prop:=∀kvs,t=.ob (.dct kvs)->∃a,w=.ref a/\n<=a/\RelM gl A (X++[a]) h M
theorem New.of_lf{gl:List T}{A X:List Nat}{n:Nat}{h:AH}{M:Mem}{t:T}{w:V}(l:t.lf=true):New gl A X n h M t w:=λkvs e=>by subst e;cases l
theorem New.lst{gl:List T}{A X:List Nat}{n:Nat}{h:AH}{M:Mem}{ts:List T}{w:V}:New gl A X n h M (.lst ts) w:=λkvs e=>by cases e
theorem New.tup{gl:List T}{A X:List Nat}{n:Nat}{h:AH}{M:Mem}{ts:List T}{w:V}:New gl A X n h M (.tup ts) w:=λkvs e=>by cases e
def Frs(gl:List T)(A X:List Nat)(n:Nat)(h:AH)(M:Mem)(t:T)(w:V):Prop:=∃fp,FP X h t w fp/\fp.Nodup/\(∀a∈fp,n<=a)/\RelM gl A (X++fp) h M/\New gl A X n h M t w
def Frss(gl:List T)(A X:List Nat)(n:Nat)(h:AH)(M:Mem)(t:List T)(w:List V):Prop:=∃fp,FPs X h t w fp/\fp.Nodup/\(∀a∈fp,n<=a)/\RelM gl A (X++fp) h M
theorem Frs.of_lf{gl:List T}{A X:List Nat}{n:Nat}{h:AH}{M:Mem}{t:T}{w:V}(R:RelM gl A X h M)(r:Rep A X h t w)(l:t.lf=true):Frs gl A X n h M t w:=⟨[],qCA t r l,vW,λa ha=>by simp at ha,by rw[wd];exact R,New.of_lf l⟩
theorem Frss.of_lf{gl:List T}{A X:List Nat}{n:Nat}{h:AH}{M:Mem}{t:List T}{w:List V}(R:RelM gl A X h M)(r:qM A X h t w)(l:T.lfs t=true):Frss gl A X n h M t w:=⟨[],V7 t r l,vW,λa ha=>by simp at ha,by rw[wd];exact R⟩
def Sim{α β:Type}(gl:List T)(A X:List Nat)(h:AH)(Q:α->β->AH->Mem->Prop):PR (α×Mem)->Res (β×AH)->Prop
 | .ok (x,M'),r=>∃y h',r=.ok (y,h')/\Frm A h h'/\RelM gl A X h' M'/\Q x y h' M'
 | .exc c M',r=>∃h',r=.exc c h'/\Frm A h h'/\RelM gl A X h' M'
 | .stuck,_=>True
theorem Sim.bind{α β α2 β2:Type}{gl:List T}{A X:List Nat}{h:AH}{Q:α->β->AH->Mem->Prop}{Q2:α2->β2->AH->Mem->Prop}{r:PR (α×Mem)}{rh:Res (β×AH)}{f:α×Mem->PR (α2×Mem)}{g:β×AH->Res (β2×AH)}
  (s:Sim gl A X h Q r rh) (k:∀x M' y h',Frm A h h'->RelM gl A X h' M'->Q x y h' M'->Sim gl A X h' Q2 (f (x,M')) (g (y,h'))):Sim gl A X h Q2 (r.bind f) (rh.bind g):=by
 cases r with
 |ok p=>
  obtain⟨x,M'⟩:=p;obtain⟨y,h',rfl,f1,R1,q⟩:=s;have:=k x M' y h' f1 R1 q;rw[tD,tF];revert this;generalize f (x,M')=r2;generalize g (y,h')=rh2;intro s2;cases r2 with
  |ok p2=>
   obtain⟨x2,M2⟩:=p2;obtain⟨y2,h2,e2,f2,R2,q2⟩:=s2;exact⟨y2,h2,e2,f1.trans f2,R2,q2⟩
  |exc c M2=>
   obtain⟨h2,e2,f2,R2⟩:=s2;exact⟨h2,e2,f1.trans f2,R2⟩
  |stuck=>trivial
 |exc c M'=>
  obtain⟨h',rfl,f1,R1⟩:=s;exact⟨h',rfl,f1,R1⟩
 |stuck=>trivial
theorem Sim.nx{α β:Type}{gl:List T}{A X:List Nat}{h:AH}{Q:α->β->AH->Mem->Prop}{r:PR (α×Mem)}{rh:Res (β×AH)}(s:Sim gl A X h Q r rh):Sim gl A X h Q r.nx rh.nx:=by
 cases r with
 |ok p=>obtain⟨x,M'⟩:=p;obtain⟨y,h',rfl,a,b,c⟩:=s;exact⟨y,h',rfl,a,b,c⟩
 |exc c M'=>trivial
 |stuck=>trivial
theorem Sim.stuck{α β:Type}{gl:List T}{A X:List Nat}{h:AH}{Q:α->β->AH->Mem->Prop}{r:Res (β×AH)}:Sim gl A X h Q (.stuck:PR (α×Mem)) r:=trivial
theorem tJ{α β α2:Type}{gl:List T}{A X:List Nat}{h:AH}{Q:α->β->AH->Mem->Prop}{o:Option α2}{f:α2->PR (α×Mem)}{r:Res (β×AH)}(k:∀x,o=some x->Sim gl A X h Q (f x) r):Sim gl A X h Q ((tH o).bind f) r:=by
 cases o with
 |none=>trivial
 |some x=>exact k x rfl
def QE(gl:List T)(A X:List Nat)(n:Nat):TB->V->AH->Mem->Prop:=λx w h M=>Rep A X h x.1 w/\(x.2=true->Frs gl A X n h M x.1 w)
def QEs(gl:List T)(A X:List Nat)(n:Nat):List TB->List V->AH->Mem->Prop:=λx w h M=>qM A X h (x.map (·.1)) w/\(x.all (·.2)=true->Frss gl A X n h M (x.map (·.1)) w)
theorem QE.le{gl:List T}{A X:List Nat}{n m:Nat}{x:TB}{w:V}{h:AH}{M:Mem}(q:QE gl A X n x w h M)(l:m<=n):QE gl A X m x w h M:=⟨q.1,λe=>by obtain⟨fp,a,b,c,d,nw⟩:=q.2 e;exact⟨fp,a,b,λz hz=>wS l (c z hz),d,λkvs e=>by obtain⟨z,q1,q2,q3⟩:=nw kvs e;exact⟨z,q1,wS l q2,q3⟩⟩⟩
theorem Sim.le{gl:List T}{A X:List Nat}{h:AH}{n m:Nat}{r:PR (TB×Mem)}{rh:RV}(s:Sim gl A X h (QE gl A X n) r rh)(l:m<=n):Sim gl A X h (QE gl A X m) r rh:=by
 cases r with
 |ok p=>obtain⟨y,h',e,f,R,q⟩:=s;exact⟨y,h',e,f,R,q.le l⟩
 |exc c M=>exact s
 |stuck=>trivial
theorem RelM.weak{gl:List T}{A X X':List Nat}{h:AH}{M:Mem}(R:RelM gl A X' h M)(hX:∀a∈X,a∈X')(hA:∀a∈A,a∈X):RelM gl A X h M:=by
 have hn:∀a o,a∉X'->h[a]?=some o->a∉X/\h[a]?=some o:=λa o x y=>⟨λz=>x (hX _ z),y⟩
 refine⟨R.len,R.nd,hA,λa ha=>R.lt a (hX a ha),λn a e=>?_,λg t e=>za (λ_ _ e=>e) hn t (R.glo g t e)⟩;obtain⟨ts,vs,e1,e2,e3⟩:=R.at_ n a e;exact⟨ts,vs,e1,e2,qQ (λ_ _ e=>e) hn ts e3⟩
theorem RelM.addX{gl:List T}{A X X':List Nat}{h:AH}{M:Mem}(R:RelM gl A X h M){o:O}(h1:∀a,a∈X'↔a=h.length\/a∈X):RelM gl A X' (h++[o]) M:=by
 have hn:∀a o',a∉X->h[a]?=some o'->a∉X'/\(h++[o])[a]?=some o':=λa o' x y=>⟨by
  rw[h1];rintro(z|z)
  ·have:=qA y;omega
  ·exact x z,by rw[wC (qA y)];exact y⟩
 refine⟨R.len,R.nd,λa ha=>(h1 a).mpr (.inr (R.sub a ha)),λa ha=>?_,λn a e=>?_,λg t e=>za (λ_ _ e=>e) hn t (R.glo g t e)⟩
 ·rcases(h1 a).mp ha with z|z
  ·simp[z]
  ·have:=R.lt a z;simp;omega
 ·obtain⟨ts,vs,e1,e2,e3⟩:=R.at_ n a e;exact⟨ts,vs,e1,by rw[wC (qA e2)];exact e2,qQ (λ_ _ e=>e) hn ts e3⟩
section
variable{gl:List T}{A X:List Nat}{h:AH}{M:Mem}
theorem JW(R:RelM gl A X h M){t:T}{w:V}{ts:List T}(r:Rep A X h t w)(e:t.its M=some ts):∃a vs,w=.ref a/\items h a=some vs/\qM A X h ts vs:=by
 cases t with
 |v x=>cases e
 |cell n=>
  unfold Rep at r;obtain⟨a,ea,rfl⟩:=r;obtain⟨ts',vs,e1,e2,e3⟩:=R.at_ n a ea;have:M[n]?=some ts:=e;rw[e1]at this;cases this;exact⟨a,vs,rfl,by unfold items;rw[e2],e3⟩
 |fz xs=>unfold Rep at r;obtain⟨a,vs,rfl,_,q,k⟩:=r;cases e;exact⟨a,vs,rfl,by unfold items;rw[q],k⟩
 |lst xs=>unfold Rep at r;obtain⟨a,vs,rfl,_,q,k⟩:=r;cases e;exact⟨a,vs,rfl,by unfold items;rw[q],k⟩
 |tup xs=>unfold Rep at r;obtain⟨a,vs,rfl,_,q,k⟩:=r;cases e;exact⟨a,vs,rfl,by unfold items;rw[q],k⟩
 |ob o=>cases e
 |dt ks ts=>cases e
theorem zk(R:RelM gl A X h M){t:T}{w:V}{ts:List T}(r:Rep A X h t w)(e:t.lis M=some ts):∃a vs f,w=.ref a/\h[a]?=some (.lst f vs)/\qM A X h ts vs:=by
 cases t with
 |v x=>cases e
 |cell n=>
  unfold Rep at r;obtain⟨a,ea,rfl⟩:=r;obtain⟨ts',vs,e1,e2,e3⟩:=R.at_ n a ea;have:M[n]?=some ts:=e;rw[e1]at this;cases this;exact⟨a,vs,false,rfl,e2,e3⟩
 |fz xs=>unfold Rep at r;obtain⟨a,vs,rfl,_,q,k⟩:=r;cases e;exact⟨a,vs,true,rfl,q,k⟩
 |lst xs=>unfold Rep at r;obtain⟨a,vs,rfl,_,q,k⟩:=r;cases e;exact⟨a,vs,false,rfl,q,k⟩
 |tup xs=>cases e
 |ob o=>cases e
 |dt ks ts=>cases e
theorem qAf(R:RelM gl A X h M){g:Bool}{t:T}{w:V}{ts:List T}(r:Rep A X h t w)(e:t.sel g M=some ts):∃a vs,w=.ref a/\qBt g h a=some vs/\qM A X h ts vs:=by
 cases g with
 |false=>
  obtain⟨a,vs,f,h1,h2,h3⟩:=zk R r (show t.lis M=some ts from e);exact⟨a,vs,h1,by show qO h a=_;unfold qO;rw[h2],h3⟩
 |true=>
  unfold T.sel at e;rw[if_pos rfl]at e;split at e
  ·cases e;unfold Rep at r;obtain⟨a,vs,rfl,_,q,k⟩:=r;exact⟨a,vs,rfl,by show qX h a=_;unfold qX;rw[q],k⟩
  ·cases e
theorem d5(R:RelM gl A X h M){t:T}{w:V}{ts:List T}(r:Rep A X h t w)(e:t.mu M=some ts):∃a vs,w=.ref a/\qz h a=some vs/\qM A X h ts vs:=by
 cases t with
 |v x=>cases e
 |cell n=>
  unfold Rep at r;obtain⟨a,ea,rfl⟩:=r;obtain⟨ts',vs,e1,e2,e3⟩:=R.at_ n a ea;have:M[n]?=some ts:=e;rw[e1]at this;cases this;exact⟨a,vs,rfl,by unfold qz;rw[e2],e3⟩
 |fz xs=>cases e
 |lst xs=>unfold Rep at r;obtain⟨a,vs,rfl,_,q,k⟩:=r;cases e;exact⟨a,vs,rfl,by unfold qz;rw[q],k⟩
 |tup xs=>cases e
 |ob o=>cases e
 |dt ks ts=>cases e
theorem qd{t:T}{x:V}(e:t.isV=some x):t=.v x:=by cases t<;>cases e;rfl
theorem jg{t:T}{w:V}(e:t.isV=none)(r:Rep A X h t w):∃a:Nat,w=.ref a:=by
 cases t with
 |v x=>cases e
 |cell n=>unfold Rep at r;obtain⟨a,_,e⟩:=r;exact⟨a,e⟩
 |fz xs=>unfold Rep at r;obtain⟨a,vs,e,_⟩:=r;exact⟨a,e⟩
 |lst xs=>unfold Rep at r;obtain⟨a,vs,e,_⟩:=r;exact⟨a,e⟩
 |tup xs=>unfold Rep at r;obtain⟨a,vs,e,_⟩:=r;exact⟨a,e⟩
 |ob o=>unfold Rep at r;obtain⟨a,e,_⟩:=r;exact⟨a,e⟩
 |dt ks ts=>unfold Rep at r;obtain⟨a,vs,e,_⟩:=r;exact⟨a,e⟩
theorem Y5(R:RelM gl A X h M){ts:List T}{vs:List V}{n:Nat}{f:Bool}(r:qM A X h ts vs)(hn:n<=h.length)(hf:f=true->Frss gl A X n h M ts vs):Sim gl A X h (QE gl A X n) (.ok ((.lst ts,f),M)) (newL vs h):=by
 have fm:Frm A h (h++[O.lst false vs]):=Frm.app A h _;have hx:h.length∉X:=λz=>wp _ (R.lt _ z);have ha:(h++[O.lst false vs])[h.length]?=some (.lst false vs):=by simp
 refine⟨.ref h.length,_,rfl,fm,R.up _,?_,λe=>?_⟩
 ·show Rep A X _ (.lst ts) _;unfold Rep;exact⟨_,vs,rfl,hx,ha,R.keeps fm r⟩
 ·obtain⟨fp,p,nd,l,R'⟩:=hf e;refine⟨fp++[h.length],?_,?_,?_,R'.addX λa=>by simp only[wF,wP];grind,New.lst⟩
  ·show FP X _ (.lst ts) _ _;unfold FP;exact⟨_,vs,fp,rfl,hx,ha,zt (R.keepN fm) ts p,rfl⟩
  ·rw[wn];refine⟨nd,by simp,?_⟩;rintro a ha b hb rfl;obtain⟨_,vs',q⟩:=ju ts p a ha;simp at hb;have:=qA q;omega
  ·intro a ha;rcases wF.mp ha with z|z
   ·exact l a z
   ·simp at z;omega
theorem Jz(R:RelM gl A X h M){ts:List T}{vs:List V}{n:Nat}{f:Bool}(r:qM A X h ts vs)(hf:f=true->Frss gl A X n h M ts vs):Sim gl A X h (QE gl A X n) (.ok ((.tup ts,f),M)) (newT vs h):=by
 have fm:Frm A h (h++[O.tup vs]):=Frm.app A h _;have hx:h.length∉X:=λz=>wp _ (R.lt _ z);have ha:(h++[O.tup vs])[h.length]?=some (.tup vs):=by simp
 refine⟨.ref h.length,_,rfl,fm,R.up _,?_,λe=>?_⟩
 ·show Rep A X _ (.tup ts) _;unfold Rep;exact⟨_,vs,rfl,hx,ha,R.keeps fm r⟩
 ·obtain⟨fp,p,nd,l,R'⟩:=hf e;refine⟨fp,?_,nd,l,R'.up _,New.tup⟩;show FP X _ (.tup ts) _ _;unfold FP;exact⟨_,vs,rfl,hx,ha,zt (R.keepN fm) ts p⟩
theorem O0(R:RelM gl A X h M){ts:List T}{vs:List V}(r:qM A X h ts vs):Sim gl A X h (QE gl A X h.length) (.ok (lT ts,M)) (newL vs h):=
 Y5 R r (wM _) λe=>Frss.of_lf R r e
theorem qH(R:RelM gl A X h M){x:V}(fx:flat x=true){n:Nat}:Sim gl A X h (QE gl A X n) (.ok ((.v x,true),M)) (.ok (x,h)):=
 have r:Rep A X h (.v x) x:=by unfold Rep;exact⟨rfl,fx⟩
 ⟨x,h,rfl,Frm.refl A h,R,r,λ_=>Frs.of_lf R r rfl⟩
theorem zI{x w:V}(r:Rep A X h (.v x) w):w=x:=by unfold Rep at r;exact r.1
theorem qBj(xs:List T):T.lf (.tup xs)=T.lfs xs:=by rw[T.lf]
theorem qBO(R:RelM gl A X h M){op:BOp}{s t:T}{x y:V}{r:TB}(e:qg M op s t=some r)(r1:Rep A X h s x)(r2:Rep A X h t y):Sim gl A X h (QE gl A X h.length) (.ok (r,M)) (qEM op x y h):=by
 unfold qg at e;split at e
 ·rename_i i j e1 e2;cases qd e1;cases qd e2;cases zI r1;cases zI r2;cases op with
  |add=>cases e;exact qH R rfl
  |sub=>cases e;exact qH R rfl
  |mul=>dsimp only at e;split at e<;>cases e;rename_i c;show Sim _ _ _ _ _ _ (if _ then _ else _);rw[if_pos c];exact qH R rfl
  |fdiv=>
   dsimp only at e;show Sim _ _ _ _ _ _ (if _ then _ else _);split at e
   ·rename_i c;cases e;rw[if_pos c];exact qH R rfl
   ·rename_i c;rw[if_neg c];split at e
    ·rename_i c;cases e;rw[if_pos c];exact qH R rfl
    ·cases e
  |mod=>
   dsimp only at e;show Sim _ _ _ _ _ _ (if _ then _ else _);split at e
   ·rename_i c;cases e;rw[if_pos c];exact qH R rfl
   ·rename_i c;rw[if_neg c];split at e
    ·rename_i c;cases e;rw[if_pos c];exact qH R rfl
    ·cases e
  |pow=>dsimp only at e;split at e<;>cases e;rename_i c;show Sim _ _ _ _ _ _ (if _ then _ else _);rw[if_pos c];exact qH R rfl
  |band=>cases e;exact qH R rfl
  |shl=>dsimp only at e;split at e<;>cases e;rename_i c;show Sim _ _ _ _ _ _ (if _ then _ else _);rw[if_pos c];exact qH R rfl
  |shr=>dsimp only at e;split at e<;>cases e;rename_i c;show Sim _ _ _ _ _ _ (if _ then _ else _);rw[if_pos c];exact qH R rfl
  |bxor=>cases e;exact qH R rfl
 ·rename_i k e1 e2;cases qd e2;cases zI r2;obtain⟨a,rfl⟩:=jg e1 r1;cases op<;>first|cases e|skip
  dsimp only at e;cases em:s.mu M with
  |none=>rw[em]at e;cases e
  |some xs=>
   rw[em]at e;dsimp only[Option.bind_some]at e;split at e<;>cases e;rename_i c;obtain⟨a',vs,ea,m,rs⟩:=d5 R r1 em;cases ea;have lv:vs.length=xs.length:=(qG (reps_iff.mp rs)).symm;show Sim _ _ _ _ _ _ (match qz h a with|some xs=>_|none=>_);rw[m];dsimp only;rw[if_pos (by rw[lv];exact c)];exact O0 R (reps_iff.mpr (m8 _ (reps_iff.mp rs)))
 ·rename_i e1 e2;obtain⟨a,rfl⟩:=jg e1 r1;obtain⟨b,rfl⟩:=jg e2 r2;cases op<;>first|cases e|skip
  dsimp only at e;split at e
  ·rename_i xs ys;split at e<;>cases e;rename_i c;unfold Rep at r1 r2;obtain⟨a1,vs,ea,n1,k1,q1⟩:=r1;cases ea;obtain⟨b1,us,eb,n2,k2,q2⟩:=r2;cases eb;have lv:vs.length=xs.length:=(qG (reps_iff.mp q1)).symm;have lu:us.length=ys.length:=(qG (reps_iff.mp q2)).symm;have m1:qz h a=none:=by unfold qz;rw[k1]
   have t1:qX h a=some vs:=by unfold qX;rw[k1]
   have t2:qX h b=some us:=by unfold qX;rw[k2]
   have q3:=reps_iff.mpr (zQ (reps_iff.mp q1) (reps_iff.mp q2));show Sim _ _ _ _ _ _ (match qz h a,qz h b with|some xs,some ys=>_|_,_=>_);rw[m1];show Sim _ _ _ _ _ _ (match qX h a,qX h b with|some xs,some ys=>_|_,_=>_);rw[t1,t2];dsimp only;rw[if_pos ⟨λz=>c.1 (by subst z;exact wq.mp lv.symm),by rw[lv,lu];exact c.2⟩];split
   ·rename_i z;subst z;have y0:ys=[]:=wq.mp lu.symm;subst y0;have r:Rep A X h (.tup (xs++[])) (.ref a):=by
     rw[wd];unfold Rep;exact⟨a,vs,rfl,n1,k1,q1⟩
    exact⟨_,h,rfl,Frm.refl A h,R,r,λe=>Frs.of_lf R r (by rw[qBj];exact e)⟩
   ·exact Jz R q3 λe=>Frss.of_lf R q3 e
  cases em:s.mu M with
  |none=>rw[em]at e;cases e
  |some xs=>
   rw[em]at e;dsimp only[Option.bind_some]at e;cases en:t.mu M with
   |none=>rw[en]at e;cases e
   |some ys=>
    rw[en]at e;dsimp only[Option.bind_some]at e;split at e<;>cases e;rename_i c;obtain⟨a',vs,ea,m,rs⟩:=d5 R r1 em;cases ea;obtain⟨b',us,eb,m2,rs2⟩:=d5 R r2 en;cases eb;have lv:vs.length=xs.length:=(qG (reps_iff.mp rs)).symm;have lu:us.length=ys.length:=(qG (reps_iff.mp rs2)).symm;show Sim _ _ _ _ _ _ (match qz h a,qz h b with|some xs,some ys=>_|_,_=>_);rw[m,m2];dsimp only;rw[if_pos (by rw[lv,lu];exact c)];exact O0 R (reps_iff.mpr (zQ (reps_iff.mp rs) (reps_iff.mp rs2)))
 ·cases e
theorem D1{x:V}{b:Bool}(e:eqF x x=some b):b=true:=by
 cases x with
 |int i=>cases e;exact uM i
 |bl i=>cases e;exact uM i
 |str i=>cases e;exact uM i
 |non=>cases e;rfl
 |_=>cases e
theorem ja{f:T->T->Option Bool}(hf:∀t b,f t t=some b->b=true):∀(ts:List T) bs,qt f ts ts=some bs->bs.all id=true
 | [],bs,e=>by cases e;rfl
 |t::ts,bs,e=>by
  unfold qt at e;split at e
  ·rename_i b bs' e1 e2;cases e;rw[List.all_cons,hf t b e1,ja hf ts bs' e2];rfl
  ·cases e
theorem Zo:∀(n:Nat) (t:T) (b:Bool),eqT M n t t=some b->b=true
 | 0,t,b,e=>by
  unfold eqT at e;split at e
  ·rename_i x y e1 e2;rw[e1]at e2;cases e2;exact D1 e
  ·cases e
 |n+1,t,b,e=>by
  unfold eqT at e;split at e
  ·rename_i x y e1 e2;rw[e1]at e2;cases e2;exact D1 e
  ·rename_i e1 e2;rw[e1]at e2;cases e2
  ·rename_i e1 e2;rw[e1]at e2;cases e2
  ·split at e
   ·rename_i xs ys e1 e2;rw[e1]at e2;cases e2;rw[if_pos rfl]at e;obtain⟨bs,eb,rfl⟩:=wA.mp e;exact ja (Zo n) xs bs eb
   ·rename_i e1 e2;rw[e1]at e2;cases e2
   ·rename_i e1 e2;rw[e1]at e2;cases e2
   ·split at e
    ·rename_i xs ys e1 e2;rw[e1]at e2;cases e2;rw[if_pos rfl]at e;obtain⟨bs,eb,rfl⟩:=wA.mp e;exact ja (Zo n) xs bs eb
    ·cases e
theorem QP{f:T->T->Option Bool}{g:V->V->Option Bool}(hf:∀s t x y b,Rep A X h s x->Rep A X h t y->f s t=some b->g x y=some b):∀{ss ts:List T}{xs ys:List V}{bs:List Bool},qM A X h ss xs->qM A X h ts ys->qt f ss ts=some bs->Qx g xs ys=some bs
 | [],[],xs,ys,bs,r1,r2,e=>by unfold qM at r1 r2;subst r1 r2;exact e
 | [],t::ts,xs,ys,bs,r1,r2,e=>by cases e
 |s::ss,[],xs,ys,bs,r1,r2,e=>by cases e
 |s::ss,t::ts,xs,ys,bs,r1,r2,e=>by
  unfold qM at r1 r2;obtain⟨x,xs',rfl,a1,a2⟩:=r1;obtain⟨y,ys',rfl,b1,b2⟩:=r2;unfold qt at e;split at e
  ·rename_i b bs' e1 e2;cases e;unfold Qx;rw[hf s t x y b a1 b1 e1,QP hf a2 b2 e2]
  ·cases e
theorem jU{x w:V}(r:Rep A X h (.v x) w):flat x=true:=by unfold Rep at r;exact r.2
theorem L5(R:RelM gl A X h M){t:T}{a:Nat}(r:Rep A X h t (.ref a))(hs:(t.its M).isSome=true):(items h a).isSome=true:=by
 cases t with
 |v x=>unfold Rep at r;exact(zu r.2 r.1).elim
 |cell n=>unfold Rep at r;obtain⟨b,eb,e⟩:=r;cases e;obtain⟨_,_,_,q,_⟩:=R.at_ n _ eb;unfold items;rw[q];rfl
 |fz xs=>unfold Rep at r;obtain⟨b,vs,e,_,q,_⟩:=r;cases e;unfold items;rw[q];rfl
 |lst xs=>unfold Rep at r;obtain⟨b,vs,e,_,q,_⟩:=r;cases e;unfold items;rw[q];rfl
 |tup xs=>unfold Rep at r;obtain⟨b,vs,e,_,q,_⟩:=r;cases e;unfold items;rw[q];rfl
 |ob o=>cases hs
 |dt ks ts=>cases hs
theorem F5{t:T}{w:V}{ts:List T}(r:Rep A X h t w)(e1:t.isV=none)(e2:t.lis M=none)(e:t.its M=some ts):∃a vs,w=.ref a/\h[a]?=some (.tup vs)/\qM A X h ts vs:=by
 cases t with
 |v x=>cases e1
 |cell n=>have z:M[n]?=some ts:=e;have z2:M[n]?=none:=e2;rw[z]at z2;cases z2
 |fz xs=>cases e2
 |lst xs=>cases e2
 |tup xs=>unfold Rep at r;obtain⟨b,vs,e',_,q,k⟩:=r;cases e;exact⟨b,vs,e',q,k⟩
 |ob o=>cases e
 |dt ks ts=>cases e
theorem qAJ{n:Nat}{x y:V}(fx:flat x=true)(fy:flat y=true):eqD h (n+1) x y=eqF x y:=by
 cases x<;>cases y<;>first|rfl|(simp[flat]at fx;done)|(simp[flat]at fy;done)
theorem JQ(R:RelM gl A X h M):∀(n:Nat) (s t:T) (x y:V) (b:Bool),Rep A X h s x->Rep A X h t y->eqT M n s t=some b->eqD h n x y=some b
 | 0,s,t,x,y,b,r1,r2,e=>by
  unfold eqT at e;split at e
  ·rename_i x' y' e1 e2;cases qd e1;cases qd e2;cases zI r1;cases zI r2;unfold eqD;exact e
  ·cases e
 |n+1,s,t,x,y,b,r1,r2,e=>by
  unfold eqT at e;split at e
  ·rename_i x' y' e1 e2;cases qd e1;cases qd e2;cases zI r1;cases zI r2;rw[qAJ (jU r1) (jU r2)];exact e
  ·rename_i x' e1 e2;cases qd e1;cases zI r1;obtain⟨c,rfl⟩:=jg e2 r2;have fx:=jU r1;split at e<;>cases e;rename_i hz;have:=L5 R r2 hz;cases x<;>first|(unfold eqD;simp[flat,this];done)|(simp[flat]at fx;done)
  ·rename_i y' e1 e2;cases qd e2;cases zI r2;obtain⟨c,rfl⟩:=jg e1 r1;have fx:=jU r2;split at e<;>cases e;rename_i hz;have:=L5 R r1 hz;cases y<;>first|(unfold eqD;simp[flat,this];done)|(simp[flat]at fx;done)
  ·rename_i e1 e2;obtain⟨c,rfl⟩:=jg e1 r1;obtain⟨d,rfl⟩:=jg e2 r2;have same:c=d->b=true:=by
    rintro rfl;have:=f9 R.nd R.sub s t r1 r2;subst this;refine Zo (M:=M) (n+1) s b ?_;unfold eqT;rw[e1];exact e
   split at e
   ·rename_i xs ys l1 l2;obtain⟨_,vs,f1,q1,k1,m1⟩:=zk R r1 l1;cases q1;obtain⟨_,us,f2,q2,k2,m2⟩:=zk R r2 l2;cases q2;unfold eqD;rw[k1,k2];dsimp only;by_cases hcd:c=d
    ·rw[if_pos hcd,same hcd]
    ·rw[if_neg hcd,<-qG (reps_iff.mp m1),<-qG (reps_iff.mp m2)];split at e
     ·rename_i hl;rw[if_pos hl];obtain⟨bs,eb,rfl⟩:=wA.mp e;rw[QP (λs t x y b a1 a2 a3=>JQ R n s t x y b a1 a2 a3) m1 m2 eb];rfl
     ·rename_i hl;rw[if_neg hl];exact e
   ·rename_i l1 l2;obtain⟨_,vs,f1,q1,k1,m1⟩:=zk R r1 l1;cases q1;split at e<;>cases e;rename_i z;cases ei:t.its M with
    |none=>rw[ei]at z;cases z
    |some ys=>
     obtain⟨_,us,q2,k2,m2⟩:=F5 r2 e2 l2 ei;cases q2;unfold eqD;rw[k1,k2]
   ·rename_i l1 l2;obtain⟨_,vs,f1,q1,k1,m1⟩:=zk R r2 l2;cases q1;split at e<;>cases e;rename_i z;cases ei:s.its M with
    |none=>rw[ei]at z;cases z
    |some ys=>
     obtain⟨_,us,q2,k2,m2⟩:=F5 r1 e1 l1 ei;cases q2;unfold eqD;rw[k1,k2]
   ·rename_i l1 l2;split at e
    ·rename_i xs ys i1 i2;obtain⟨_,vs,q1,k1,m1⟩:=F5 r1 e1 l1 i1;cases q1;obtain⟨_,us,q2,k2,m2⟩:=F5 r2 e2 l2 i2;cases q2;unfold eqD;rw[k1,k2];dsimp only;by_cases hcd:c=d
     ·rw[if_pos hcd,same hcd]
     ·rw[if_neg hcd,<-qG (reps_iff.mp m1),<-qG (reps_iff.mp m2)];split at e
      ·rename_i hl;rw[if_pos hl];obtain⟨bs,eb,rfl⟩:=wA.mp e;rw[QP (λs t x y b a1 a2 a3=>JQ R n s t x y b a1 a2 a3) m1 m2 eb];rfl
      ·rename_i hl;rw[if_neg hl];obtain⟨bs,eb,rfl⟩:=wA.mp e;rw[QP (λs t x y b a1 a2 a3=>JQ R n s t x y b a1 a2 a3) (reps_iff.mpr (jd _ (reps_iff.mp m1))) (reps_iff.mpr (jd _ (reps_iff.mp m2))) eb];rfl
    ·cases e
theorem QN:∀{ts:List T}{vs xs:List V},qM A X h ts vs->zX ts=some xs->vs=xs/\xs.all flat=true
 | [],vs,xs,r,e=>by unfold qM at r;subst r;cases e;exact⟨rfl,rfl⟩
 |t::ts,vs,xs,r,e=>by
  unfold qM at r;obtain⟨v,vs',rfl,a,b⟩:=r;cases t with
  |v x=>
   unfold zX at e;obtain⟨xs',e',rfl⟩:=wA.mp e;obtain⟨rfl,k⟩:=QN b e';cases zI a;exact⟨rfl,by rw[List.all_cons,jU a,k];rfl⟩
  |_=>cases e
theorem Q7{t:T}{kvs:List (Int×V)}{w:V}(e:t.dct=some kvs)(r:Rep A X h t w):∃p:Nat,w=.ref p/\p∉X/\h[p]?=some (.ob (.dct kvs))/\(Ob.dct kvs).fl=true:=by
 cases t with
 |ob o=>
  cases o with
  |dct k=>cases e;unfold Rep at r;exact r
  |exn c=>cases e
  |fdc c=>cases e
 |_=>cases e
theorem qAa(R:RelM gl A X h M){s t:T}{x y:V}{b:Bool}(r1:Rep A X h s x)(r2:Rep A X h t y)(e:inT M s t=some b):P5 .inn x y h=some b/\P5 .notin x y h=some (!b):=by
 unfold inT at e;cases hd:t.dct with
 |some kvs=>
  rw[hd]at e;obtain⟨p,rfl,q1,q2,_⟩:=Q7 hd r2;have i0:items h p=none:=by unfold items;rw[q2]
  have d0:zU h p=some kvs:=by unfold zU;rw[q2]
  dsimp only at e;split at e
  ·cases e;cases zI r1;constructor
   ·dsimp only[P5,l8];rw[i0];dsimp only;rw[d0]
   ·dsimp only[P5,l8];rw[i0];dsimp only;rw[d0]
  ·cases e
 |none=>
 rw[hd]at e;dsimp only at e;split at e
 ·rename_i q hq;have ht:t=.dt q.1 q.2:=by cases t<;>cases hq;rfl
  subst ht;split at e
  ·rename_i i;cases e;cases zI r1;unfold Rep at r2;obtain⟨p,vs,rfl,_,q2,⟨q3,_⟩,_⟩:=r2;have i0:items h p=none:=by unfold items;rw[q2]
   have d0:zU h p=some (q.1.zip vs):=by unfold zU;rw[q2]
   have hh:∀(ks:List Int) (vs:List V),ks.length=vs.length->Qz (ks.zip vs) i=ks.contains i:=by
    intro ks
    induction ks with
    |nil=>intro vs _;rfl
    |cons k ks ih=>
     intro vs hl;cases vs with
     |nil=>cases hl
     |cons v vs=>
      show (decide (k=i)||Qz (ks.zip vs) i)=_;rw[ih vs (by simpa using hl),List.contains_cons];congr 1;rw[wl,decide_eq_true_iff,beq_iff_eq];exact⟨Eq.symm,Eq.symm⟩
   constructor
   ·dsimp only[P5,l8];rw[i0];dsimp only;rw[d0];dsimp only;rw[hh _ _ q3]
   ·dsimp only[P5,l8];rw[i0];dsimp only;rw[d0];dsimp only;rw[hh _ _ q3]
  ·cases e
 obtain⟨a,ea,e⟩:=wI.mp e;obtain⟨ts,et,e⟩:=wI.mp e;obtain⟨xs,ex,rfl⟩:=wA.mp e;cases qd ea;cases zI r1;obtain⟨p,vs,rfl,q1,q2⟩:=JW R r2 et;obtain⟨rfl,k⟩:=QN q2 ex;have fx:=jU r1;constructor
 ·dsimp only[P5,l8];rw[q1];dsimp only;rw[if_pos (by rw[fx,k];rfl)]
 ·dsimp only[P5,l8];rw[q1];dsimp only;rw[if_pos (by rw[fx,k];rfl)]
theorem A7(R:RelM gl A X h M){op:COp}{s t:T}{x y:V}{b:Bool}(r1:Rep A X h s x)(r2:Rep A X h t y)(e:zB M op s t=some b):P5 op x y h=some b:=by
 cases op with
 |eq=>exact JQ R 4 s t x y b r1 r2 e
 |ne=>
  obtain⟨c,ec,rfl⟩:=wA.mp (show (eqT M 4 s t).map (!·)=some b from e);show (eqD h 4 x y).map (!·)=_;rw[JQ R 4 s t x y c r1 r2 ec];rfl
 |inn=>exact(qAa R r1 r2 e).1
 |notin=>
  obtain⟨c,ec,rfl⟩:=wA.mp (show (inT M s t).map (!·)=some b from e);exact(qAa R r1 r2 ec).2
 |is=>
  unfold zB at e;dsimp only at e;split at e
  ·rename_i e2;cases qd e2;cases zI r2;cases e;show some (decide (x=V.non))=_;cases hs:s.isV with
   |none=>obtain⟨a,rfl⟩:=jg hs r1;rfl
   |some z=>cases qd hs;cases zI r1;cases x<;>rfl
  ·rename_i e2;cases qd e2;cases zI r2;split at e
   ·rename_i e3;cases qd e3;cases zI r1;exact e
   ·cases e
  ·cases e
 |isnot=>
  unfold zB at e;dsimp only at e;split at e
  ·rename_i e2;cases qd e2;cases zI r2;cases e;show some (!decide (x=V.non))=_;cases hs:s.isV with
   |none=>obtain⟨a,rfl⟩:=jg hs r1;rfl
   |some z=>cases qd hs;cases zI r1;cases x<;>rfl
  ·rename_i e2;cases qd e2;cases zI r2;split at e
   ·rename_i e3;cases qd e3;cases zI r1;exact e
   ·cases e
  ·cases e
 |lt=>unfold zB at e;dsimp only at e;split at e<;>first|(rename_i e1 e2;cases qd e1;cases qd e2;cases zI r1;cases zI r2;exact e)|cases e
 |le=>unfold zB at e;dsimp only at e;split at e<;>first|(rename_i e1 e2;cases qd e1;cases qd e2;cases zI r1;cases zI r2;exact e)|cases e
 |gt=>unfold zB at e;dsimp only at e;split at e<;>first|(rename_i e1 e2;cases qd e1;cases qd e2;cases zI r1;cases zI r2;exact e)|cases e
 |ge=>unfold zB at e;dsimp only at e;split at e<;>first|(rename_i e1 e2;cases qd e1;cases qd e2;cases zI r1;cases zI r2;exact e)|cases e
theorem Qn:∀{ts:List T}{vs:List V}{is:List Int},qM A X h ts vs->qk ts=some is->zy vs=some is
 | [],vs,xs,r,e=>by unfold qM at r;subst r;cases e;rfl
 |t::ts,vs,xs,r,e=>by
  unfold qM at r;obtain⟨v,vs',rfl,a,b⟩:=r;unfold qk at e;split at e
  ·rename_i e';cases e'
  ·rename_i e';cases e';obtain⟨xs',e',rfl⟩:=wA.mp e;cases zI a;show (zy vs').map _=_;rw[Qn b e'];rfl
  ·cases e
theorem Jw:∀{ts:List T}{vs:List V}{is:List Int},qM A X h ts vs->jW ts=some is->jD vs=some is
 | [],vs,xs,r,e=>by unfold qM at r;subst r;cases e;rfl
 |t::ts,vs,xs,r,e=>by
  unfold qM at r;obtain⟨v,vs',rfl,a,b⟩:=r;unfold jW at e;split at e
  ·rename_i e';cases e'
  ·rename_i e';cases e';obtain⟨xs',e',rfl⟩:=wA.mp e;cases zI a;show (jD vs').map _=_;rw[Jw b e'];rfl
  ·rename_i e';cases e';obtain⟨xs',e',rfl⟩:=wA.mp e;cases zI a;show (jD vs').map _=_;rw[Jw b e'];rfl
  ·cases e
theorem F7:∀{ts:List T}{vs:List V}{is:List Bool},qM A X h ts vs->zx ts=some is->jx vs=some is
 | [],vs,xs,r,e=>by unfold qM at r;subst r;cases e;rfl
 |t::ts,vs,xs,r,e=>by
  unfold qM at r;obtain⟨v,vs',rfl,a,b⟩:=r;unfold zx at e;split at e
  ·rename_i e';cases e'
  ·rename_i e';cases e';obtain⟨xs',e',rfl⟩:=wA.mp e;cases zI a;show (jx vs').map _=_;rw[F7 b e'];rfl
  ·cases e
theorem Zk{t:T}{ws:List V}(r:qM A X h [t] ws):∃w,ws=[w]/\Rep A X h t w:=by
 unfold qM at r;obtain⟨v,vs,rfl,a,b⟩:=r;unfold qM at b;subst b;exact⟨v,rfl,a⟩
theorem y7{s t:T}{ws:List V}(r:qM A X h [s,t] ws):∃w u,ws=[w,u]/\Rep A X h s w/\Rep A X h t u:=by
 unfold qM at r;obtain⟨v,vs,rfl,a,b⟩:=r;obtain⟨u,rfl,c⟩:=Zk b;exact⟨v,u,rfl,a,c⟩
theorem qJ{a:Nat}{f:Bool}{vs:List V}(e:h[a]?=some (.lst f vs)):qO h a=some vs:=by unfold qO;rw[e]
theorem Zc(R:RelM gl A X h M){t:T}{w:V}{n:Nat}(r:Rep A X h t w):Sim gl A X h (QE gl A X n) (.ok ((t,t.lf),M)) (.ok (w,h)):=
 ⟨w,h,rfl,Frm.refl A h,R,r,λe=>Frs.of_lf R r e⟩
theorem qCC(R:RelM gl A X h M){f:BF}{ts:List T}{ws:List V}{r:TB}(rs:qM A X h ts ws)(e:jS M f ts=some r):Sim gl A X h (QE gl A X h.length) (.ok (r,M)) (qEe f ws h):=by
 cases f with
 |len=>
  replace e:=zv e;obtain⟨t0,rfl,e⟩:=e;obtain⟨w,rfl,rw_⟩:=Zk rs;cases ex:t0.its M with
  |some xs=>
   rw[ex]at e;cases e;obtain⟨a,vs,rfl,q1,q2⟩:=JW R rw_ ex;show Sim _ _ _ _ _ (.ok (iT xs.length,M)) (match items h a with|some xs=>_|none=>_);rw[q1,qG (reps_iff.mp q2)];exact qH R rfl
  |none=>
   rw[ex]at e;have e:t0.lenD.map (λn=>iT (n:Nat))=some r:=e;obtain⟨n,en,rfl⟩:=wA.mp e;have hd:∃(a:Nat) (kvs:List (Int×V)),w=.ref a/\h[a]?=some (.ob (.dct kvs))/\kvs.length=n:=by
    cases t0 with
    |ob o=>
     cases o with
     |dct kvs=>cases en;unfold Rep at rw_;obtain⟨a,e1,_,e2,_⟩:=rw_;exact⟨a,kvs,e1,e2,rfl⟩
     |exn c=>cases en
     |fdc c=>cases en
    |dt ks ts=>cases en;unfold Rep at rw_;obtain⟨a,vs,e1,_,e2,e3,_⟩:=rw_;exact⟨a,_,e1,e2,by rw[uA,<-e3.1,Nat.min_self]⟩
    |_=>cases en
   obtain⟨a,kvs,rfl,e2,rfl⟩:=hd;show Sim _ _ _ _ _ _ (match items h a with|some xs=>_|none=>_);rw[show items h a=none by unfold items;rw[e2]];show Sim _ _ _ _ _ _ (match zU h a with|some xs=>_|none=>_);rw[show zU h a=some kvs by unfold zU;rw[e2]];exact qH R rfl
 |sum=>
  replace e:=zv e;obtain⟨t0,rfl,e⟩:=e;obtain⟨w,rfl,rw_⟩:=Zk rs;obtain⟨xs,ex,e⟩:=wI.mp e;obtain⟨is,ei,rfl⟩:=wA.mp e;obtain⟨a,vs,f,rfl,q1,q2⟩:=zk R rw_ ex;show Sim _ _ _ _ _ _ (match qO h a with|some xs=>_|none=>_);rw[qJ q1];dsimp only;rw[Jw q2 ei];exact qH R rfl
 |all=>
  replace e:=zv e;obtain⟨t0,rfl,e⟩:=e;obtain⟨w,rfl,rw_⟩:=Zk rs;obtain⟨xs,ex,e⟩:=wI.mp e;obtain⟨is,ei,rfl⟩:=wA.mp e;obtain⟨a,vs,f,rfl,q1,q2⟩:=zk R rw_ ex;show Sim _ _ _ _ _ _ (match qO h a with|some xs=>_|none=>_);rw[qJ q1];dsimp only;rw[F7 q2 ei];exact qH R rfl
 |max=>
  replace e:=twoT_inv e;obtain⟨i,j,rfl,e⟩:=e;obtain⟨w,u,rfl,a,b⟩:=y7 rs;cases zI a;cases zI b;cases e;exact qH R rfl
 |min=>
  replace e:=twoT_inv e;obtain⟨i,j,rfl,e⟩:=e;obtain⟨w,u,rfl,a,b⟩:=y7 rs;cases zI a;cases zI b;cases e;exact qH R rfl
 |maxl=>
  replace e:=zv e;obtain⟨t0,rfl,e⟩:=e;obtain⟨w,rfl,rw_⟩:=Zk rs;obtain⟨xs,ex,e⟩:=wI.mp e;obtain⟨is,ei,e⟩:=wI.mp e;obtain⟨M,eM,rfl⟩:=wA.mp e;obtain⟨a,vs,f,rfl,q1,q2⟩:=zk R rw_ ex;show Sim _ _ _ _ _ _ (match qO h a with|some xs=>_|none=>_);rw[qJ q1];dsimp only;rw[Qn q2 ei,Option.bind_some,eM];exact qH R rfl
 |bits=>
  replace e:=zv e;obtain⟨t0,rfl,e⟩:=e;split at e
  ·obtain⟨w,rfl,a⟩:=Zk rs;cases zI a;cases e;exact qH R rfl
  ·cases e
 |list=>
  replace e:=zv e;obtain⟨t0,rfl,e⟩:=e;obtain⟨w,rfl,rw_⟩:=Zk rs;obtain⟨xs,ex,rfl⟩:=wA.mp e;obtain⟨a,vs,rfl,q1,q2⟩:=JW R rw_ ex;show Sim _ _ _ _ _ _ (match items h a with|some xs=>_|none=>_);rw[q1];exact O0 R q2
 |int=>
  replace e:=zv e;obtain⟨t0,rfl,e⟩:=e;split at e
  ·obtain⟨w,rfl,a⟩:=Zk rs;cases zI a;cases e;exact qH R rfl
  ·obtain⟨w,rfl,a⟩:=Zk rs;cases zI a;cases e;exact qH R rfl
  ·cases e
theorem w6(R:RelM gl A X h M){t:T}{w:V}{s:String}(r:Rep A X h t w)(e:jA M t=some s):zj h w=some s:=by
 cases t with
 |v x=>cases zI r;cases w<;>first|exact e|(cases e;done)
 |cell n=>unfold Rep at r;obtain⟨a,ea,rfl⟩:=r;obtain⟨ts,vs,e1,e2,_⟩:=R.at_ n a ea;unfold jA at e;dsimp only at e;rw[e1]at e;cases e;unfold zj;dsimp only;rw[e2]
 |fz xs=>unfold Rep at r;obtain⟨a,vs,rfl,_,q,_⟩:=r;cases e;unfold zj;dsimp only;rw[q]
 |lst xs=>unfold Rep at r;obtain⟨a,vs,rfl,_,q,_⟩:=r;cases e;unfold zj;dsimp only;rw[q]
 |tup xs=>unfold Rep at r;obtain⟨a,vs,rfl,_,q,_⟩:=r;cases e;unfold zj;dsimp only;rw[q]
 |ob o=>cases o with
  |dct=>unfold Rep at r;obtain⟨a,rfl,_,q,_⟩:=r;cases e;unfold zj;dsimp only;rw[q]
  |exn c=>cases e
  |fdc c=>cases e
 |dt ks ts=>cases e
theorem JP{ts:List T}{vs:List V}{lo hi:Option Int}(r:qM A X h ts vs):qM A X h (JF ts lo hi) (_L.cutV vs lo hi):=by
 have l:=qG (reps_iff.mp r);unfold JF _L.cutV;rw[l];exact reps_iff.mpr (jd _ (JZ _ (reps_iff.mp r)))
end
def qCj(A X:List Nat)(h:AH):Option T->Option V->Prop
 |none,_=>True
 |some t,some w=>Rep A X h t w
 |some _,none=>False
abbrev jc(A X:List Nat)(h:AH):TS->List (Option V)->Prop:=jb (qCj A X h)
section
variable{gl:List T}{A X:List Nat}{h h':AH}{M M':Mem}{σ:TS}{σh:List (Option V)}
theorem F4{i:Nat}{t:T}(r:jc A X h σ σh)(e:σ[i]?=some (some t)):∃w,σh[i]?=some (some w)/\Rep A X h t w:=by
 obtain⟨o,e1,q⟩:=zT r e;cases o with
 |none=>exact q.elim
 |some w=>exact⟨w,e1,q⟩
theorem jL{A' X':List Nat}(hc:∀(n:Nat) a,A[n]?=some a->A'[n]?=some a)(hn:∀a o,a∉X->h[a]?=some o->a∉X'/\h'[a]?=some o)(r:jc A X h σ σh):jc A' X' h' σ σh:=
 qx (λx y q=>by
  cases x with
  |none=>trivial
  |some t=>cases y with
   |none=>exact q.elim
   |some w=>exact za hc hn t q) r
theorem RelM.keepS(R:RelM gl A X h M)(f:Frm A h h')(r:jc A X h σ σh):jc A X h' σ σh:=jL (λ_ _ e=>e) (R.keepN f) r
theorem jz(r:jc A X h σ σh):∀src:List (Option Nat),jc A X h (jG src σ) (_L.inner src σh)
 | []=>rfl
 |none::src=>⟨none,_,rfl,trivial,jz r src⟩
 |some j::src=>by
  refine⟨(σh[j]?).join,_,rfl,?_,jz r src⟩;show qCj A X h (σ[j]?).join _;cases hj:σ[j]? with
  |none=>trivial
  |some o=>cases o with
   |none=>trivial
   |some t=>
    obtain⟨w,e1,q⟩:=F4 r hj;rw[e1];exact q
theorem Q5:∀{is:List Nat}{ts:List T}{ws:List V}{σ σ1:TS}{σh:List (Option V)},qEW is ts σ=some σ1->qM A X h ts ws->jc A X h σ σh->∃σh1,ZI is ws σh=some σh1/\jc A X h σ1 σh1
 | [],[],ws,σ,σ1,σh,e,r,rs=>by unfold qM at r;subst r;cases e;exact⟨σh,rfl,rs⟩
 | [],t::ts,ws,σ,σ1,σh,e,r,rs=>by cases e
 |i::is,[],ws,σ,σ1,σh,e,r,rs=>by cases e
 |i::is,t::ts,ws,σ,σ1,σh,e,r,rs=>by
  unfold qM at r;obtain⟨w,ws',rfl,a,b⟩:=r;exact Q5 (is:=is) (show qEW is ts (σ.set i (some t))=some σ1 from e) b (jK i rs (show qCj A X h (some t) (some w) from a))
theorem je{g:Tg}{t:T}{w:V}{σ1:TS}(e:zN g t σ=some σ1)(r:Rep A X h t w)(rs:jc A X h σ σh):∃σh1,store g w σh h=some σh1/\jc A X h σ1 σh1:=by
 cases g with
 |name i=>cases e;exact⟨σh.set i (some w),rfl,jK i rs (show qCj A X h (some t) (some w) from r)⟩
 |tup is=>
  cases t with
  |tup ts=>
   unfold Rep at r;obtain⟨a,vs,rfl,_,q,k⟩:=r;obtain⟨σh1,e1,r1⟩:=Q5 (show qEW is ts σ=some σ1 from e) k rs;refine⟨σh1,?_,r1⟩;show (match qX h a with|some xs=>_|none=>_)=_;rw[show qX h a=some vs by unfold qX;rw[q]];exact e1
  |_=>cases e
theorem Qa:∀(i:Nat) (ts:List T),(jt i ts).length=ts.length
 |_,[]=>rfl
 |i,t::ts=>by rw[jt,List.length_cons,List.length_cons,Qa]
theorem JH:∀(i j:Nat) (ts:List T),(jt i ts)[j]?=(ts[j]?).map λt=>T.tup [.v (.int ((i+j:Nat):Int)),t]
 |_,_,[]=>by simp[jt]
 |i,0,t::ts=>by simp[jt]
 |i,j+1,t::ts=>by
  rw[jt,List.getElem?_cons_succ,List.getElem?_cons_succ,JH (i+1) j ts];rw[show i+1+j=i+(j+1) by omega]
inductive Qw(A X:List Nat)(h:AH):Src->List T->QK->Prop
 |list (a f vs ts):a∉X->h[a]?=some (.lst f vs)->qM A X h ts vs->Qw A X h (.list a) ts []
 |cell (n a vs ts):A[n]?=some a->h[a]?=some (.lst false vs)->qM A X h ts vs->Qw A X h (.list a) ts [(n,ts)]
 |tupl (a vs ts):a∉X->h[a]?=some (.tup vs)->qM A X h ts vs->Qw A X h (.tupl a) ts []
 |rng (lo n):Qw A X h (.rng lo n) (jQ lo n) []
 |enum (a ts d):Qw A X h (.list a) ts d->Qw A X h (.enum a) (jt 0 ts) d
theorem Y4{s:Src}{ts:List T}{d:QK}(r:Qw A X h s ts d)(hn:∀a o,a∉X->h[a]?=some o->h'[a]?=some o)(R:RelM gl A X h' M')(hd:qe d M'=true):Qw A X h' s ts d:=by
 induction r with
 |list a f vs ts q1 q2 q3=>exact .list a f vs ts q1 (hn _ _ q1 q2) (qQ (λ_ _ e=>e) (λa o x y=>⟨x,hn a o x y⟩) ts q3)
 |cell n a vs ts q1 q2 q3=>
  obtain⟨ts',vs',e1,e2,e3⟩:=R.at_ n a q1;unfold qe at hd;simp only[List.all_cons,List.all_nil,vM]at hd;rw[e1]at hd;have:=jZ _ _ hd;subst this;exact .cell n a vs' ts' q1 e2 e3
 |tupl a vs ts q1 q2 q3=>exact .tupl a vs ts q1 (hn _ _ q1 q2) (qQ (λ_ _ e=>e) (λa o x y=>⟨x,hn a o x y⟩) ts q3)
 |rng lo n=>exact .rng lo n
 |enum a ts d _ i1=>exact .enum a ts d (i1 hd)
theorem ZG{A' X':List Nat}{s:Src}{ts:List T}{d:QK}(r:Qw A X h s ts d)(hn:∀a o,a∉X->h[a]?=some o->a∉X'/\h'[a]?=some o)(R:RelM gl A' X' h' M')(hd:qe d M'=true)(hA:∀(n:Nat) a,A[n]?=some a->A'[n]?=some a:=by exact λ_ _ e=>e):Qw A' X' h' s ts d:=by
 induction r with
 |list a f vs ts q1 q2 q3=>exact .list a f vs ts (hn _ _ q1 q2).1 (hn _ _ q1 q2).2 (qQ hA hn ts q3)
 |cell n a vs ts q1 q2 q3=>
  obtain⟨ts',vs',e1,e2,e3⟩:=R.at_ n a (hA _ _ q1);unfold qe at hd;simp only[List.all_cons,List.all_nil,vM]at hd;rw[e1]at hd;have:=jZ _ _ hd;subst this;exact .cell n a vs' ts' (hA _ _ q1) e2 e3
 |tupl a vs ts q1 q2 q3=>exact .tupl a vs ts (hn _ _ q1 q2).1 (hn _ _ q1 q2).2 (qQ hA hn ts q3)
 |rng lo n=>exact .rng lo n
 |enum a ts d _ i1=>exact .enum a ts d (i1 hd)
theorem QZ{a:Nat}{ts:List T}{d:QK}(r:Qw A X h (.list a) ts d):∃vs,qO h a=some vs/\qM A X h ts vs:=by
 cases r with
 |list _ f vs _ q1 q2 q3=>exact⟨vs,qJ q2,q3⟩
 |cell n _ vs _ q1 q2 q3=>exact⟨vs,qJ q2,q3⟩
theorem J9{s:Src}{ts:List T}{d:QK}(r:Qw A X h s ts d):Jc h s=some ts.length:=by
 cases r with
 |list a f vs ts q1 q2 q3=>show (qO h a).map _=_;rw[qJ q2,Option.map_some,qG (reps_iff.mp q3)]
 |cell n a vs ts q1 q2 q3=>show (qO h a).map _=_;rw[qJ q2,Option.map_some,qG (reps_iff.mp q3)]
 |tupl a vs ts q1 q2 q3=>show (qX h a).map _=_;rw[show qX h a=some vs by unfold qX;rw[q2],Option.map_some,qG (reps_iff.mp q3)]
 |rng lo n=>show some n=_;simp[jQ]
 |enum a ts d r1=>
  obtain⟨vs,e1,k1⟩:=QZ r1;show (qO h a).map _=_;rw[e1,Option.map_some,Qa,qG (reps_iff.mp k1)]
theorem Jl{s:Src}{ts:List T}{d:QK}(r:Qw A X h s ts d):jF h ts.length s=true:=by
 cases r with
 |list a f vs ts q1 q2 q3=>show (match qO h a with|some xs=>_|none=>_)=_;rw[qJ q2,qG (reps_iff.mp q3)];simp
 |cell n a vs ts q1 q2 q3=>show (match qO h a with|some xs=>_|none=>_)=_;rw[qJ q2,qG (reps_iff.mp q3)];simp
 |tupl a vs ts q1 q2 q3=>show (match qX h a with|some xs=>_|none=>_)=_;rw[show qX h a=some vs by unfold qX;rw[q2],qG (reps_iff.mp q3)];simp
 |rng lo n=>show decide _=_;simp[jQ]
 |enum a ts d r1=>
  obtain⟨vs,e1,k1⟩:=QZ r1;show (match qO h a with|some xs=>_|none=>_)=_;rw[e1,Qa,qG (reps_iff.mp k1)];simp
theorem ZM(R:RelM gl A X h M){s:Src}{ts:List T}{d:QK}(r:Qw A X h s ts d){i:Nat}{t:T}(ei:ts[i]?=some t):
  ∃w e,qi h i s=some (w,h++e)/\Rep A X (h++e) t w:=by
 cases r with
 |list a f vs ts q1 q2 q3=>
  obtain⟨w,ew,q⟩:=zT (reps_iff.mp q3) ei;refine⟨w,[],?_,by rw[wd];exact q⟩;show (match qO h a with|some xs=>_|none=>_)=_;rw[qJ q2];dsimp only;rw[ew,wd];rfl
 |cell n a vs ts q1 q2 q3=>
  obtain⟨w,ew,q⟩:=zT (reps_iff.mp q3) ei;refine⟨w,[],?_,by rw[wd];exact q⟩;show (match qO h a with|some xs=>_|none=>_)=_;rw[qJ q2];dsimp only;rw[ew,wd];rfl
 |tupl a vs ts q1 q2 q3=>
  obtain⟨w,ew,q⟩:=zT (reps_iff.mp q3) ei;refine⟨w,[],?_,by rw[wd];exact q⟩;show (match qX h a with|some xs=>_|none=>_)=_;rw[show qX h a=some vs by unfold qX;rw[q2]];dsimp only;rw[ew,wd];rfl
 |rng lo n=>
  have hi:i<n:=by have:=(wB.mp ei).1;simpa [jQ] using this
  refine⟨.int (lo+(i:Int)),[],?_,?_⟩
  ·show (if i<n then _ else _)=_;rw[if_pos hi,wd]
  ·have:t=.v (.int (lo+(i:Int))):=by
    simp only[jQ,wg,ve hi,Option.map_some,Option.some.injEq]at ei;exact ei.symm
   rw[this];unfold Rep;exact⟨rfl,rfl⟩
 |enum a ts d r1=>
  obtain⟨vs,e1,k1⟩:=QZ r1;rw[JH]at ei;obtain⟨x,ex,rfl⟩:=wA.mp ei;obtain⟨v,ev,qv⟩:=zT (reps_iff.mp k1) ex;refine⟨.ref h.length,[.tup [.int (i:Int),v]],?_,?_⟩
  ·show (match qO h a with|some xs=>_|none=>_)=_;rw[e1];dsimp only;rw[ev];rfl
  ·have f:=Frm.app A h [O.tup [.int (i:Int),v]];unfold Rep;refine⟨_,[.int (i:Int),v],rfl,λz=>wp _ (R.lt _ z),by simp,?_⟩;unfold qM;refine⟨.int (i:Int),[v],rfl,by unfold Rep;rw[Nat.zero_add];exact⟨rfl,rfl⟩,?_⟩;unfold qM;exact⟨v,[],rfl,R.keep f qv,by unfold qM;rfl⟩
theorem Frs.ofD(R:RelM gl A X h M){kvs:List (Int×V)}(r:Rep A X (h++[O.ob (.dct kvs)]) (.ob (.dct kvs)) (.ref h.length)):Frs gl A X h.length (h++[O.ob (.dct kvs)]) M (.ob (.dct kvs)) (.ref h.length):=
 ⟨[],by unfold Rep at r;unfold FP;exact⟨r,rfl⟩,vW,λa ha=>by simp at ha,by rw[wd];exact R.up _,λ_ _=>⟨h.length,rfl,wM _,R.addX λa=>by simp only[wF,wP];grind⟩⟩
theorem RelM.setX(R:RelM gl A X h M){D:Nat}(hD:D∈X)(hA:D∉A)(o:O):RelM gl A X (h.set D o) M:=by
 have hn:∀a o',a∉X->h[a]?=some o'->a∉X/\(h.set D o)[a]?=some o':=λa o' x y=>⟨x,by rw[wX (by rintro rfl;exact x hD)];exact y⟩
 refine⟨R.len,R.nd,R.sub,λa ha=>by simpa using R.lt a ha,λn a e=>?_,λg t e=>za (λ_ _ e=>e) hn t (R.glo g t e)⟩;obtain⟨ts,vs,e1,e2,e3⟩:=R.at_ n a e;exact⟨ts,vs,e1,by rw[wX (by rintro rfl;exact hA (wT e))];exact e2,qQ (λ_ _ e=>e) hn ts e3⟩
theorem Sim.bindW{α β α2 β2:Type}{X':List Nat}{h1:AH}{Q:α->β->AH->Mem->Prop}{Q2:α2->β2->AH->Mem->Prop}{r:PR (α×Mem)}{rh:Res (β×AH)}{f:α×Mem->PR (α2×Mem)}{g:β×AH->Res (β2×AH)}
  (hX:∀a∈X,a∈X') (hA:∀a∈A,a∈X) (f0:Frm A h1 h)
  (s:Sim gl A X' h Q r rh) (k:∀x M' y h',Frm A h h'->RelM gl A X' h' M'->Q x y h' M'->Sim gl A X h1 Q2 (f (x,M')) (g (y,h'))):Sim gl A X h1 Q2 (r.bind f) (rh.bind g):=by
 cases r with
 |ok p=>
  obtain⟨x,M'⟩:=p;obtain⟨y,h',rfl,f1,R1,q⟩:=s;exact k x M' y h' f1 R1 q
 |exc c M'=>
  obtain⟨h',rfl,f1,R1⟩:=s;exact⟨h',rfl,f0.trans f1,R1.weak hX hA⟩
 |stuck=>trivial
mutual
theorem qDD{X X':List Nat}{h:AH}:∀(t:T){w:V}{f g:List Nat},FP X h t w f->FP X' h t w g->f=g
 | .v x,w,f,g,p,q=>by unfold FP at p q;rw[p.2,q.2]
 | .cell n,w,f,g,p,q=>by unfold FP at p;exact p.elim
 | .fz ts,w,f,g,p,q=>by unfold FP at p;exact p.elim
 | .ob o,w,f,g,p,q=>by unfold FP at p q;rw[p.2,q.2]
 | .dt _ _,w,f,g,p,q=>by unfold FP at p;exact p.elim
 | .lst ts,w,f,g,p,q=>by
  unfold FP at p q;obtain⟨a,vs,f',rfl,_,e1,k1,rfl⟩:=p;obtain⟨b,us,g',e,_,e2,k2,rfl⟩:=q;cases e;rw[e1]at e2;cases e2;rw[Zp ts k1 k2]
 | .tup ts,w,f,g,p,q=>by
  unfold FP at p q;obtain⟨a,vs,rfl,_,e1,k1⟩:=p;obtain⟨b,us,e,_,e2,k2⟩:=q;cases e;rw[e1]at e2;cases e2;exact Zp ts k1 k2
theorem Zp{X X':List Nat}{h:AH}:∀(ts:List T){ws:List V}{f g:List Nat},FPs X h ts ws f->FPs X' h ts ws g->f=g
 | [],w,f,g,p,q=>by unfold FPs at p q;rw[p.2,q.2]
 |t::ts,w,f,g,p,q=>by
  unfold FPs at p q;obtain⟨v,vs,f1,f2,rfl,a,b,rfl⟩:=p;obtain⟨v',vs',g1,g2,e,a',b',rfl⟩:=q;cases e;rw[qDD t a a',Zp ts b b']
end
theorem C1:∀{ts:List T}{ws:List V}{fp f:List Nat}{t:T}{w:V},FPs X h ts ws fp->FP X h t w f->FPs X h (ts++[t]) (ws++[w]) (fp++f)
 | [],ws,fp,f,t,w,p,q=>by
  unfold FPs at p;obtain⟨rfl,rfl⟩:=p;show FPs X h [t] [w] f;unfold FPs;exact⟨w,[],f,[],rfl,q,by unfold FPs;exact⟨rfl,rfl⟩,by simp⟩
 |s::ts,ws,fp,f,t,w,p,q=>by
  unfold FPs at p;obtain⟨v,vs,f1,f2,rfl,a,b,rfl⟩:=p;show FPs X h (s::(ts++[t])) (v::(vs++[w])) _;unfold FPs;exact⟨v,vs++[w],f1,f2++f,rfl,a,C1 b q,by rw[wm]⟩
end
section
variable{gl:List T}{A X:List Nat}
theorem Zm{s:Src}{its:List T}{d:QK}{g:Tg}{c:TS->Mem->PR (Bool×Mem)}{c':List (Option V)->AH->Res (Bool×AH)}{e:TS->Mem->PR (TB×Mem)}{e':List (Option V)->AH->RV}{D:Nat}{h1:AH}
  (hc:∀X h M σ σh,RelM gl A X h M->jc A X h σ σh->Sim gl A X h (λb b' _ _=>b=b') (c σ M) (c' σh h))
  (he:∀X h M σ σh,RelM gl A X h M->jc A X h σ σh->Sim gl A X h (QE gl A X h.length) (e σ M) (e' σh h))
  (hD:h1.length<=D) (hDX:D∉X) (hA:∀a∈A,a∈X):∀(r:List T) (i:Nat) (ys:List T) (ws:List V) (f:Bool) (fp:List Nat) (Y:List Nat) (σ:TS) (σh:List (Option V)) (M:Mem) (h:AH),
   its.drop i=r->i<=its.length->Y=D::X++fp->Frm A h1 h->RelM gl A Y h M->Qw A Y h s its d->h[D]?=some (.lst false ws)->qM A (D::X) h ys ws ->
   (f=true->FPs (D::X) h ys ws fp/\fp.Nodup/\∀a∈fp,h1.length<=a)->jc A Y h σ σh ->
   Sim gl A X h1 (QE gl A X h1.length) (qP d g c e r ys f σ M) (Jp s g c' e' D r.length i ws σh h)
 | [],i,ys,ws,f,fp,Y,σ,σh,M,h,hr,hi,hY,fm,R,sr,eD,ry,hf,rs=>by
  have hi':i=its.length:=by
   have:=vt.mp hr;omega
  subst hi';have hX:∀a∈X,a∈D::X:=λa z=>wL _ z;have hXY:∀a∈X,a∈Y:=λa z=>by rw[hY];simp[z]
  have hn:∀a o,a∉D::X->h[a]?=some o->a∉X/\h[a]?=some o:=λa o x y=>⟨λz=>x (hX _ z),y⟩
  refine⟨.ref D,h,?_,fm,R.weak hXY hA,?_,λe=>?_⟩
  ·show (if jF h its.length s then _ else _)=_;rw[if_pos (Jl sr)]
  ·show Rep A X h (.lst ys) _;unfold Rep;exact⟨D,ws,rfl,hDX,eD,qQ (λ_ _ e=>e) hn ys ry⟩
  ·obtain⟨p,nd,l⟩:=hf e;refine⟨fp++[D],?_,?_,?_,?_⟩
   ·show FP X h (.lst ys) _ _;unfold FP;exact⟨D,ws,fp,rfl,hDX,eD,zt hn ys p,rfl⟩
   ·rw[wn];refine⟨nd,by simp,?_⟩;rintro a ha b hb rfl;simp at hb;exact(ju ys p a ha).1 (by rw[hb];exact wU ..)
   ·intro a ha;rcases wF.mp ha with z|z
    ·exact l a z
    ·simp at z;omega
   ·refine⟨R.weak (λa z=>?_) λa z=>wN _ (hA a z),New.lst⟩;rw[hY];simp only[wF,wJ,wP]at z ⊢
    grind
 |x::r,i,ys,ws,f,fp,Y,σ,σh,M,h,hr,hi,hY,fm,R,sr,eD,ry,hf,rs=>by
  have hXY:∀a∈X,a∈Y:=λa z=>by rw[hY];simp[z]
  have hDY:D∈Y:=by rw[hY];simp
  have hDXY:∀a∈D::X,a∈Y:=λa z=>by rw[hY];exact wN _ z
  have hDA:D∉A:=λz=>hDX (hA D z);have ex:its[i]?=some x:=by
   have:(its.drop i)[0]?=some x:=by rw[hr];rfl
   rwa [List.getElem?_drop,Nat.add_zero]at this
  have hi2:i+1<=its.length:=(wB.mp ex).1;have hr2:its.drop (i+1)=r:=by
   rw[<-List.drop_drop,hr];rfl
  obtain⟨w,ext,ey,rx⟩:=ZM R sr ex;have fy:Frm A h (h++ext):=Frm.app A h ext;rw[List.length_cons];unfold qP Jp;rw[ey];dsimp only;cases es:zN g x σ with
  |none=>exact Sim.stuck
  |some σ1=>
   obtain⟨σh1,esh,rs1⟩:=je es rx (R.keepS fy rs);rw[esh];dsimp only;refine Sim.bindW hXY hA (fm.trans fy) (hc _ _ _ _ _ (R.up ext) rs1) ?_;rintro b M2 b' h2 f2 R2 rfl;have k2:Frm A h h2:=fy.trans f2;have eD2:h2[D]?=some (.lst false ws):=(k2.2 D (qA eD) hDA).trans eD;have kN:∀{h':AH},Frm A h h'->∀a o,a∉D::X->h[a]?=some o->a∉D::X/\h'[a]?=some o:=λf' a o x y=>⟨x,(f'.2 a (qA y) λz=>x (wL _ (hA _ z))).trans y⟩
   cases b with
   |true=>
    simp only[if_true];refine Sim.bindW hXY hA (fm.trans k2) (he _ _ _ _ _ R2 ((R.up ext).keepS f2 rs1)) ?_;intro y M3 w3 h3 f3 R3 q3;have k3:Frm A h h3:=k2.trans f3;have eD3:h3[D]?=some (.lst false ws):=(k3.2 D (qA eD) hDA).trans eD;have lw:ys.length=ws.length:=qG (reps_iff.mp ry);dsimp only;by_cases hl:ys.length<lim/\qe d M3=true
    ·rw[if_pos hl,if_pos ⟨eD3,by rw[<-lw];exact hl.1⟩];have hs:∀(Z:List Nat),D∈Z->∀a o,a∉Z->h3[a]?=some o->a∉Z/\(h3.set D (.lst false (ws++[w3])))[a]?=some o:=λZ hZ a o x y=>⟨x,by rw[wX (by rintro rfl;exact x hZ)];exact y⟩
     have hnD:∀a o,a∉D::X->h[a]?=some o->a∉D::X/\(h3.set D (.lst false (ws++[w3])))[a]?=some o:=λa o x y=>hs _ (wU ..) a o x (kN k3 a o x y).2;have ry4:qM A (D::X) (h3.set D (.lst false (ws++[w3]))) (ys++[y.1]) (ws++[w3]):=
      reps_iff.mpr (zQ (reps_iff.mp (qQ (λ_ _ e=>e) hnD ys ry)) ⟨w3,[],rfl,za (λ_ _ e=>e) (λa o x y=>hs _ (wU ..) a o x y) _ (za (λ_ _ e=>e) (λa o x y=>⟨λz=>x (hDXY _ z),y⟩) _ q3.1),rfl⟩)
     obtain⟨fp2,hp2,R3',hlt2⟩:∃fp2:List Nat,(y.2=true->FP Y h3 y.1 w3 fp2/\fp2.Nodup)/\RelM gl A (Y++fp2) h3 M3/\∀a∈fp2,h2.length<=a:=by
      cases hy2:y.2 with
      |true=>
       obtain⟨fp2,a,b,c,d,_⟩:=q3.2 hy2;exact⟨fp2,λ_=>⟨a,b⟩,d,c⟩
      |false=>exact⟨[],(λz=>by cases z),by rw[wd];exact R3,λa ha=>by simp at ha⟩
     have old:∀{Z:List Nat}(_:∀a∈Y,a∈Z) (a:Nat) o,a∉Y->h2[a]?=some o->a∉Y++fp2:=λ_ a o x y=>by
      rw[wF];rintro(z|z)
      ·exact x z
      ·have:=hlt2 a z;have:=qA y;omega
     have R4:=R3'.setX (wN _ hDY) hDA (.lst false (ws++[w3]));have hnY:∀a o,a∉Y->h[a]?=some o->a∉Y++fp2/\(h3.set D (.lst false (ws++[w3])))[a]?=some o:=λa o x y=>⟨old (λ_ z=>z) a o x (R.keepN k2 a o x y).2,(hs Y hDY a o x (R.keepN k3 a o x y).2).2⟩
     have hn2:∀a o,a∉Y->h2[a]?=some o->a∉Y++fp2/\(h3.set D (.lst false (ws++[w3])))[a]?=some o:=λa o x y=>⟨old (λ_ z=>z) a o x y,(hs Y hDY a o x (R2.keepN f3 a o x y).2).2⟩
     refine Zm hc he hD hDX hA r (i+1) (ys++[y.1]) (ws++[w3]) (f&&y.2) (fp++fp2) (Y++fp2) σ1 σh1 M3 _ hr2 hi2 (by rw[hY,wm]) ((fm.trans k3).set (.inr hD) _) R4 ?_ ?_ ry4 ?_ ?_
     ·exact ZG sr hnY R4 hl.2
     ·rw[wb (qA eD3)]
     ·intro ef;rw[wE]at ef;obtain⟨p1,nd1,l1⟩:=hf ef.1;obtain⟨p2,nd2⟩:=hp2 ef.2;refine⟨C1 (zt hnD ys p1) (ZX (λa o x y=>hs _ (wU ..) a o x y) _ (ZX (λa o x y=>⟨λz=>x (hDXY _ z),y⟩) _ p2)),?_,?_⟩
      ·rw[wn];refine⟨nd1,nd2,?_⟩;rintro a ha b hb rfl;exact(F6 y.1 p2 a hb).1 (by rw[hY];exact wQ _ ha)
      ·intro a ha;rcases wF.mp ha with z|z
       ·exact l1 a z
       ·have:=hlt2 a z;have:=(fm.trans k2).1;omega
     ·exact jL (λ_ _ e=>e) hn2 ((R.up ext).keepS f2 rs1)
    ·rw[if_neg hl];exact Sim.stuck
   |false=>
    dsimp only;simp only[vF,if_false];by_cases hl:qe d M2=true
    ·rw[if_pos hl,if_pos eD2];exact Zm hc he hD hDX hA r (i+1) ys ws f fp Y σ1 σh1 M2 h2 hr2 hi2 hY (fm.trans k2) R2 (Y4 sr (λa o x y=>(R.keepN k2 a o x y).2) R2 hl) eD2 (qQ (λ_ _ e=>e) (kN k2) ys ry)
      (λef=>by obtain⟨a,b,c⟩:=hf ef;exact⟨zt (kN k2) ys a,b,c⟩) ((R.up ext).keepS f2 rs1)
    ·rw[if_neg hl];exact Sim.stuck
end
section
variable{gl:List T}{A X:List Nat}{h h':AH}{M M':Mem}
theorem m6{X':List Nat}{s:Src}{ts:List T}{d:QK}(r:Qw A X h s ts d)(hn:∀a o,a∉X->h[a]?=some o->a∉X'/\h'[a]?=some o)(hc:∀(n:Nat) a o,A[n]?=some a->h[a]?=some o->h'[a]?=some o):Qw A X' h' s ts d:=by
 induction r with
 |list a f vs ts q1 q2 q3=>exact .list a f vs ts (hn _ _ q1 q2).1 (hn _ _ q1 q2).2 (qQ (λ_ _ e=>e) hn ts q3)
 |cell n a vs ts q1 q2 q3=>exact .cell n a vs ts q1 (hc n a _ q1 q2) (qQ (λ_ _ e=>e) hn ts q3)
 |tupl a vs ts q1 q2 q3=>exact .tupl a vs ts (hn _ _ q1 q2).1 (hn _ _ q1 q2).2 (qQ (λ_ _ e=>e) hn ts q3)
 |rng lo n=>exact .rng lo n
 |enum a ts d _ i1=>exact .enum a ts d i1
theorem N9{n:Nat}{r:PR (TB×Mem)}{rh:RV}(s:Sim gl A X h (QE gl A X n) r rh):Sim gl A X h (λb b' _ _=>b=b') (pB r) (asB rh):=by
 refine Sim.bind s ?_;intro x M1 w h1 f1 R1 q1;obtain⟨t,fr⟩:=x;dsimp only;split
 ·rename_i b;cases zI q1.1;exact⟨_,h1,rfl,Frm.refl A h1,R1,rfl⟩
 ·exact Sim.stuck
theorem QU{A X:List Nat}{h:AH}:∀{xs:List V},xs.all flat=true->qM A X h (xs.map .v) xs
 | [],_=>by show qM A X h [] [];unfold qM;rfl
 |x::xs,f=>by
  rw[List.all_cons,wE]at f;show qM A X h (.v x::xs.map .v) _;unfold qM;exact⟨x,xs,rfl,by unfold Rep;exact⟨rfl,f.1⟩,QU f.2⟩
theorem qDX{kvs:List (Int×V)}{k:Int}{v:V}(h:(Ob.dct kvs).fl=true)(f:flat v=true):(Ob.dct (QF kvs k v)).fl=true:=by
 unfold QF;have h:∀p∈kvs,flat p.2=true:=List.all_eq_true.mp h;split
 ·show (List.all _ _)=true;rw[List.all_eq_true];intro p hp;obtain⟨q,hq,e⟩:=wW.mp hp;rw[<-e];by_cases z:q.1=k
  ·rw[if_pos z];exact f
  ·rw[if_neg z];exact h q hq
 ·show (List.all _ _)=true;rw[List.all_eq_true];intro p hp;rcases wF.mp hp with hp|hp
  ·exact h p hp
  ·rw[wP.mp hp];exact f
theorem D8:∀{more kvs:List (Int×V)},(Ob.dct more).fl=true->(Ob.dct kvs).fl=true->(Ob.dct (zA kvs more)).fl=true
 | [],_,_,h=>h
 |p::more,kvs,m,h=>by
  have m:(flat p.2&&more.all λp=>flat p.2)=true:=m;rw[wE]at m;exact D8 (more:=more) m.2 (qDX h m.1)
theorem k9:∀(is:List Int){vs:List V},vs.all flat=true->(Ob.dct (is.zip vs)).fl=true
 | [],_,_=>rfl
 |_::_,[],_=>rfl
 |i::is,v::vs,h=>by
  rw[List.all_cons,wE]at h;show (flat v&&(is.zip vs).all λp=>flat p.2)=true;rw[h.1];exact k9 is h.2
theorem F2{A X:List Nat}{h:AH}{i:Int}{t:T}:∀{ks:List Int}{ts:List T}{vs:List V},qM A X h ts vs->qAP ks ts i=some t->∃v,QI (ks.zip vs) i=some v/\Rep A X h t v
 | [],_,_,_,e=>by cases e
 |_::_,[],_,_,e=>by cases e
 |k::ks,u::ts,vs,r,e=>by
  unfold qM at r;obtain⟨v,vs',rfl,r1,r2⟩:=r;unfold qAP at e;rw[List.zip_cons_cons];unfold QI;rw[List.find?_cons];dsimp only;by_cases z:k=i
  ·rw[if_pos z]at e;cases e;rw[uI z];exact⟨v,rfl,r1⟩
  ·rw[if_neg z]at e;rw[uH z];exact F2 r2 e
theorem qCo{t:T}{q:List Int×List T}(e:t.dts=some q):t=.dt q.1 q.2:=by cases t<;>cases e;rfl
theorem qCc(R:RelM gl A X h M){t:T}{w:V}{s:List T×QK}(r:Rep A X h t w)(e:ZE M t=some s):∃p sh,w=.ref p/\(match h[p]? with|some (.lst _ _)=>Res.ok (Src.list p,h)|some (.tup _)=>.ok (.tupl p,h)|_=>.stuck)=.ok (sh,h)/\Qw A X h sh s.1 s.2:=by
 cases t with
 |v x=>cases e
 |cell n=>
  unfold Rep at r;obtain⟨a,ea,rfl⟩:=r;obtain⟨ts,vs,e1,e2,e3⟩:=R.at_ n a ea;unfold ZE at e;dsimp only at e;rw[e1]at e;cases e;exact⟨a,_,rfl,by rw[e2],.cell n a vs ts ea e2 e3⟩
 |fz xs=>unfold Rep at r;obtain⟨a,vs,rfl,q,k,z⟩:=r;cases e;exact⟨a,_,rfl,by rw[k],.list a true vs xs q k z⟩
 |lst xs=>unfold Rep at r;obtain⟨a,vs,rfl,q,k,z⟩:=r;cases e;exact⟨a,_,rfl,by rw[k],.list a false vs xs q k z⟩
 |tup xs=>unfold Rep at r;obtain⟨a,vs,rfl,q,k,z⟩:=r;cases e;exact⟨a,_,rfl,by rw[k],.tupl a vs xs q k z⟩
 |ob o=>cases e
 |dt ks ts=>cases e
theorem qCS(R:RelM gl A X h M){t:T}{w:V}{s:List T×QK}(r:Rep A X h t w)(e:qAi M t=some s):∃p vs,w=.ref p/\qO h p=some vs/\Qw A X h (.list p) s.1 s.2:=by
 cases t with
 |v x=>cases e
 |cell n=>
  unfold Rep at r;obtain⟨a,ea,rfl⟩:=r;obtain⟨ts,vs,e1,e2,e3⟩:=R.at_ n a ea;unfold qAi at e;dsimp only at e;rw[e1]at e;cases e;exact⟨a,_,rfl,qJ e2,.cell n a vs ts ea e2 e3⟩
 |fz xs=>unfold Rep at r;obtain⟨a,vs,rfl,q,k,z⟩:=r;cases e;exact⟨a,_,rfl,qJ k,.list a true vs xs q k z⟩
 |lst xs=>unfold Rep at r;obtain⟨a,vs,rfl,q,k,z⟩:=r;cases e;exact⟨a,_,rfl,qJ k,.list a false vs xs q k z⟩
 |tup xs=>cases e
 |ob o=>cases e
 |dt ks ts=>cases e
theorem QEs.len{n:Nat}{xs:List TB}{ws:List V}(q:QEs gl A X n xs ws h M):xs.length=ws.length:=by
 have:=qG (reps_iff.mp q.1);simpa using this
end
section
variable{gl:List T}{P:Nat->List T->Mem->PR (TB×Mem)}{F:Nat->List V->AH->RV}
variable (hF:∀f ts ws A X h M,RelM gl A X h M->qM A X h ts ws->Sim gl A X h (QE gl A X h.length) (P f ts M) (F f ws h))
include hF
mutual
theorem qa:∀(e:E) (A X:List Nat) (h:AH) (M:Mem) (σ:TS) (σh:List (Option V)),RelM gl A X h M->jc A X h σ σh->Sim gl A X h (QE gl A X h.length) (pe gl P e σ M) (ev F e σh h)
 | .var i,A,X,h,M,σ,σh,R,rs=>by
  rw[pe,ev];dsimp only;split
  ·rename_i t e;obtain⟨w,ew,r⟩:=F4 rs e;rw[ew];exact Zc R r
  ·exact Sim.stuck
 | .dnew,A,X,h,M,σ,σh,R,rs=>by
  unfold pe ev;have r:Rep A X (h++[O.ob (.dct [])]) (.ob (.dct [])) (.ref h.length):=by
   unfold Rep;exact⟨h.length,rfl,λz=>by have:=R.lt _ z;omega,by simp,rfl⟩
  exact⟨_,_,rfl,Frm.app A h _,R.up _,r,λ_=>Frs.ofD R r⟩
 | .cst v,A,X,h,M,σ,σh,R,rs=>by
  rw[pe,ev];dsimp only;split
  ·rename_i e;exact qH R e
  ·exact Sim.stuck
 | .glob g,A,X,h,M,σ,σh,R,rs=>by
  rw[pe,ev];dsimp only;split
  ·rename_i t e;exact Zc R (R.glo g t e)
  ·exact Sim.stuck
 | .bin op a b,A,X,h,M,σ,σh,R,rs=>by
  rw[pe,ev];dsimp only;refine Sim.bind (qa a A X h M σ σh R rs) ?_;intro x M1 v h1 f1 R1 q1;dsimp only;refine Sim.bind (qa b A X h1 M1 σ σh R1 (R.keepS f1 rs)) ?_;intro y M2 w h2 f2 R2 q2;dsimp only;exact tJ λr er=>(qBO R2 er (R1.keep f2 q1.1) q2.1).le (wS f1.1 f2.1)
 | .neg a,A,X,h,M,σ,σh,R,rs=>by
  rw[pe,ev];dsimp only;refine Sim.bind (qa a A X h M σ σh R rs) ?_;intro x M1 v h1 f1 R1 q1;dsimp only;obtain⟨t,fr⟩:=x;dsimp only;split
  ·cases zI q1.1;exact qH R1 rfl
  ·exact Sim.stuck
 | .cmp op a b,A,X,h,M,σ,σh,R,rs=>by
  rw[pe,ev];dsimp only;refine Sim.bind (qa a A X h M σ σh R rs) ?_;intro x M1 v h1 f1 R1 q1;dsimp only;refine Sim.bind (qa b A X h1 M1 σ σh R1 (R.keepS f1 rs)) ?_;intro y M2 w h2 f2 R2 q2;dsimp only;refine tJ λr er=>?_;unfold qA1;rw[A7 R2 (R1.keep f2 q1.1) q2.1 er];exact qH R2 rfl
 | .cmp2 o1 o2 a b c,A,X,h,M,σ,σh,R,rs=>by
  rw[pe,ev];dsimp only;refine Sim.bind (qa a A X h M σ σh R rs) ?_;intro x M1 v h1 f1 R1 q1;dsimp only;refine Sim.bind (qa b A X h1 M1 σ σh R1 (R.keepS f1 rs)) ?_;intro y M2 w h2 f2 R2 q2;dsimp only;refine tJ λr er=>?_;rw[A7 R2 (R1.keep f2 q1.1) q2.1 er];cases r with
  |true=>
   simp only[if_true];refine Sim.bind (qa c A X h2 M2 σ σh R2 (R1.keepS f2 (R.keepS f1 rs))) ?_;intro z M3 u h3 f3 R3 q3;dsimp only;refine tJ λr er=>?_;unfold qA1;rw[A7 R3 (R2.keep f3 q2.1) q3.1 er];exact qH R3 rfl
  |false=>exact qH R2 rfl
 | .and a b,A,X,h,M,σ,σh,R,rs=>by
  rw[pe,ev];dsimp only;refine Sim.bind (N9 (qa a A X h M σ σh R rs)) ?_;rintro x M1 v h1 f1 R1 rfl;dsimp only;cases x with
  |true=>simp only[if_true];exact(qa b A X h1 M1 σ σh R1 (R.keepS f1 rs)).le f1.1
  |false=>exact qH R1 rfl
 | .or a b,A,X,h,M,σ,σh,R,rs=>by
  rw[pe,ev];dsimp only;refine Sim.bind (N9 (qa a A X h M σ σh R rs)) ?_;rintro x M1 v h1 f1 R1 rfl;dsimp only;cases x with
  |false=>simp only[vF,if_false];exact(qa b A X h1 M1 σ σh R1 (R.keepS f1 rs)).le f1.1
  |true=>exact qH R1 rfl
 | .not a,A,X,h,M,σ,σh,R,rs=>by
  rw[pe,ev];dsimp only;refine Sim.bind (N9 (qa a A X h M σ σh R rs)) ?_;rintro x M1 v h1 f1 R1 rfl;dsimp only;exact qH R1 rfl
 | .ite c a b,A,X,h,M,σ,σh,R,rs=>by
  rw[pe,ev];dsimp only;refine Sim.bind (N9 (qa c A X h M σ σh R rs)) ?_;rintro x M1 v h1 f1 R1 rfl;dsimp only;cases x with
  |true=>simp only[if_true];exact(qa a A X h1 M1 σ σh R1 (R.keepS f1 rs)).le f1.1
  |false=>simp only[vF,if_false];exact(qa b A X h1 M1 σ σh R1 (R.keepS f1 rs)).le f1.1
 | .call f as,A,X,h,M,σ,σh,R,rs=>by
  rw[pe,ev];dsimp only;refine Sim.bind (QD as A X h M σ σh R rs) ?_;intro x M1 v h1 f1 R1 q1;dsimp only;exact(hF f _ _ A X h1 M1 R1 q1.1).nx.le f1.1
 | .blt f as,A,X,h,M,σ,σh,R,rs=>by
  rw[pe,ev];dsimp only;refine Sim.bind (QD as A X h M σ σh R rs) ?_;intro x M1 v h1 f1 R1 q1;dsimp only;exact tJ λr er=>(qCC R1 q1.1 er).le f1.1
 | .isi a ts,A,X,h,M,σ,σh,R,rs=>by
  rw[pe,ev];dsimp only;refine Sim.bind (qa a A X h M σ σh R rs) ?_;intro x M1 v h1 f1 R1 q1;dsimp only;refine tJ λr er=>?_;rw[w6 R1 q1.1 er];exact qH R1 rfl
 | .idx a b,A,X,h,M,σ,σh,R,rs=>by
  rw[pe,ev];dsimp only;refine Sim.bind (qa a A X h M σ σh R rs) ?_;intro x M1 v h1 f1 R1 q1;dsimp only;refine Sim.bind (qa b A X h1 M1 σ σh R1 (R.keepS f1 rs)) ?_;intro y M2 w h2 f2 R2 q2;dsimp only;refine tJ λr er=>?_;obtain⟨ty,fy⟩:=y;unfold zP at er;dsimp only at er;split at er
  ·rename_i i;cases zI q2.1;obtain⟨xs,e1,er⟩:=wI.mp er;obtain⟨j,e2,er⟩:=wI.mp er;obtain⟨t,e3,rfl⟩:=wA.mp er;obtain⟨p,vs,rfl,k1,k2⟩:=JW R2 (R1.keep f2 q1.1) e1;obtain⟨u,e4,k3⟩:=zT (reps_iff.mp k2) e3;dsimp only;rw[k1];dsimp only;rw[<-qG (reps_iff.mp k2),e2];dsimp only[Option.bind_some];rw[e4];exact Zc R2 k3
  ·cases er
 | .index a b,A,X,h,M,σ,σh,R,rs=>by
  rw[pe,ev];dsimp only;refine Sim.bind (qa a A X h M σ σh R rs) ?_;intro x M1 v h1 f1 R1 q1;dsimp only;refine tJ λxs ex=>?_;obtain⟨p,vs,rfl,k1,k2⟩:=qAf R1 q1.1 ex;dsimp only[C2];rw[k1];dsimp only;refine Sim.bind (qa b A X h1 M1 σ σh R1 (R.keepS f1 rs)) ?_;intro y M2 w h2 f2 R2 q2;dsimp only;refine tJ λr er=>?_;unfold D7 at er;obtain⟨c,ec,er⟩:=wI.mp er;obtain⟨ts,et,er⟩:=wI.mp er;obtain⟨zs,ez,er⟩:=wI.mp er;obtain⟨j,ej,rfl⟩:=wA.mp er;obtain⟨y1,y2⟩:=y;dsimp only at ec q2;cases qd ec;cases zI q2.1;obtain⟨p',vs',hp',k1',k2'⟩:=qAf R2 (R1.keep f2 q1.1) et;cases hp';obtain⟨rfl,kk⟩:=QN k2' ez;have fx:=jU q2.1;unfold D9;rw[k1'];dsimp only;rw[if_pos (by rw[fx,kk];rfl),ej];exact qH R2 rfl
 | .sl a lo hi,A,X,h,M,σ,σh,R,rs=>by
  rw[pe,ev];dsimp only;refine Sim.bind (qa a A X h M σ σh R rs) ?_;intro x M1 v h1 f1 R1 q1;dsimp only;refine Sim.bind (QD lo A X h1 M1 σ σh R1 (R.keepS f1 rs)) ?_;intro y M2 w h2 f2 R2 q2;dsimp only;refine Sim.bind (QD hi A X h2 M2 σ σh R2 (R1.keepS f2 (R.keepS f1 rs))) ?_;intro z M3 u h3 f3 R3 q3;dsimp only;refine tJ λxs ex=>tJ λl el=>tJ λm em=>?_;rw[Qn (R2.keeps f3 q2.1) el,Qn q3.1 em];have rp:=R2.keep f3 (R1.keep f2 q1.1);refine tJ λr er=>?_;refine Sim.le ?_ (wS f1.1 (wS f2.1 f3.1));obtain⟨x1,x2⟩:=x;dsimp only at ex er rp ⊢;cases x1 with
  |v x=>cases ex
  |ob o=>cases ex
  |dt ks ts=>cases ex
  |cell n=>cases er;obtain⟨p,vs,f,rfl,k1,k2⟩:=zk R3 rp ex;dsimp only;rw[qJ k1];exact O0 R3 (JP k2)
  |fz xs=>cases er;obtain⟨p,vs,f,rfl,k1,k2⟩:=zk R3 rp ex;dsimp only;rw[qJ k1];exact O0 R3 (JP k2)
  |lst xs=>cases er;obtain⟨p,vs,f,rfl,k1,k2⟩:=zk R3 rp ex;dsimp only;rw[qJ k1];exact O0 R3 (JP k2)
  |tup ts=>
   cases ex;unfold Rep at rp;obtain⟨a,vs,rfl,_,q,kk⟩:=rp;have ln:=qG (reps_iff.mp kk);dsimp only;rw[show qO h3 a=none by unfold qO;rw[q],show qX h3 a=some vs by unfold qX;rw[q]];dsimp only;unfold qA8 at er;dsimp only at er;rw[ln]at er;split at er
   ·cases er
   ·rename_i hw;cases er;rw[if_neg hw];exact Jz R3 (JP kk) λe=>Frss.of_lf R3 (JP kk) e
 | .lst as,A,X,h,M,σ,σh,R,rs=>by
  rw[pe,ev];dsimp only;refine Sim.bind (QD as A X h M σ σh R rs) ?_;intro x M1 v h1 f1 R1 q1;dsimp only;rw[<-q1.len];split
  ·exact Y5 R1 q1.1 f1.1 q1.2
  ·exact Sim.stuck
 | .tup as,A,X,h,M,σ,σh,R,rs=>by
  rw[pe,ev];dsimp only;refine Sim.bind (QD as A X h M σ σh R rs) ?_;intro x M1 v h1 f1 R1 q1;dsimp only;rw[<-q1.len];split
  ·exact Jz R1 q1.1 q1.2
  ·exact Sim.stuck
 | .comp it src g c e,A,X,h,M,σ,σh,R,rs=>by
  rw[pe,ev];dsimp only;refine Sim.bind (qAs it A X h M σ σh R rs) ?_;intro s M1 sh h1 f1 R1 q1;dsimp only;have hn:∀a o,a∉X->h1[a]?=some o->a∉h1.length::X/\(h1++[O.lst false []])[a]?=some o:=λa o x y=>⟨by
   rw[wJ];rintro(z|z)
   ·have:=qA y;omega
   ·exact x z,by rw[wC (qA y)];exact y⟩
  have sr:Qw A (h1.length::X) (h1++[O.lst false []]) sh s.1 s.2:=m6 q1 hn λn a o _ y=>by rw[wC (qA y)];exact y
  rw[J9 sr];dsimp only;refine(Zm (its:=s.1) (λX h M σ σh R rs=>qDN c A X h M σ σh R rs) (λX h M σ σh R rs=>qa e A X h M σ σh R rs) (wM h1.length) (λz=>wp _ (R1.lt _ z)) R1.sub s.1 0 [] [] true [] (h1.length::X) _ _ M1 _ rfl (vU _) (by simp) (Frm.app A h1 _) (R1.addX λa=>wJ) sr (by simp) (by unfold qM;rfl) ?_ ?_).le f1.1
  ·exact λ_=>⟨by unfold FPs;exact⟨rfl,rfl⟩,vW,λa ha=>by simp at ha⟩
  ·exact jL (λ_ _ e=>e) hn (jz (R.keepS f1 rs) src)
 | .app a b,A,X,h,M,σ,σh,R,rs=>by
  rw[pe,ev];dsimp only;refine Sim.bind (qa a A X h M σ σh R rs) ?_;intro x M1 v h1 f1 R1 q1;dsimp only;obtain⟨t,fr⟩:=x;dsimp only;split
  ·rename_i n;have q:=q1.1;unfold Rep at q;obtain⟨p,ep,rfl⟩:=q;obtain⟨ts,vs,e1,e2,e3⟩:=R1.at_ n p ep;dsimp only;rw[qJ e2];dsimp only;refine Sim.bind (qa b A X h1 M1 σ σh R1 (R.keepS f1 rs)) ?_;intro y M2 w h2 f2 R2 q2;dsimp only;obtain⟨ts2,vs2,g1,g2,g3⟩:=R2.at_ n p ep;rw[g1,show qz h2 p=some vs2 by unfold qz;rw[g2]];dsimp only;rw[<-qG (reps_iff.mp g3)];split
   ·have r1:jb (Rep A X h2) [y.1] [w]:=⟨w,[],rfl,q2.1,rfl⟩
    obtain⟨R4,f4⟩:=R2.put ep (reps_iff.mpr (zQ (reps_iff.mp g3) r1));have r:Rep A X (h2.set p (.lst false (vs2++[w]))) (.v .non) .non:=by unfold Rep;exact⟨rfl,rfl⟩
    exact⟨.non,_,rfl,f4,R4,r,λ_=>Frs.of_lf R4 r rfl⟩
   ·exact Sim.stuck
  ·exact Sim.stuck
 | .dix a b,A,X,h,M,σ,σh,R,rs=>by
  rw[pe,ev];dsimp only;refine Sim.bind (qa a A X h M σ σh R rs) ?_;intro x M1 v h1 f1 R1 q1;dsimp only;refine(Sim.bind (qa b A X h1 M1 σ σh R1 (R.keepS f1 rs)) ?_).le f1.1;intro y M2 w h2 f2 R2 q2;dsimp only;refine tJ λr er=>?_;obtain⟨y1,y2⟩:=y;dsimp only at er;unfold qEd at er;split at er
  ·rename_i i;cases zI q2.1;split at er
   ·rename_i dq hdq;obtain⟨t0,et,er⟩:=wA.mp er;cases er;have rx:=R1.keep f2 q1.1;rw[qCo hdq]at rx;unfold Rep at rx;obtain⟨p,vs,rfl,_,q4,_,k4⟩:=rx;obtain⟨v0,ev0,r0⟩:=F2 k4 et;have d0:J4 h2 p=some (dq.1.zip vs):=by unfold J4;rw[q4]
    show Sim _ _ _ _ _ _ (match J4 h2 p with|some kvs=>_|none=>_);rw[d0];dsimp only;rw[ev0];dsimp only;exact Zc R2 r0
   obtain⟨kvs,ek,er⟩:=wI.mp er;obtain⟨vv,ev',er⟩:=wI.mp er;split at er
   ·rename_i fv;cases er;obtain⟨p,rfl,q3,q4,_⟩:=Q7 ek (R1.keep f2 q1.1);have d0:J4 h2 p=some kvs:=by unfold J4;rw[q4]
    show Sim _ _ _ _ _ _ (match J4 h2 p with|some kvs=>_|none=>_);rw[d0];dsimp only;rw[ev'];dsimp only;exact(qH R2 fv)
   ·cases er
  ·cases er
 | .dzip a b,A,X,h,M,σ,σh,R,rs=>by
  rw[pe,ev];dsimp only;refine Sim.bind (qa a A X h M σ σh R rs) ?_;intro x M1 v h1 f1 R1 q1;dsimp only;refine(Sim.bind (qa b A X h1 M1 σ σh R1 (R.keepS f1 rs)) ?_).le f1.1;intro y M2 w h2 f2 R2 q2;dsimp only;refine tJ λxs ex=>tJ λys ey=>tJ λis ei=>tJ λvs ev'=>?_;obtain⟨p,us,fz,rfl,g1,g2⟩:=zk R2 (R1.keep f2 q1.1) ex;obtain⟨q,ws,fz',rfl,g3,g4⟩:=zk R2 q2.1 ey;obtain⟨rfl,kf⟩:=QN g4 ev';show Sim _ _ _ _ _ _ (match qO h2 p with|some xs=>_|none=>_);rw[qJ g1];dsimp only;rw[qJ g3];dsimp only;rw[Qn g2 ei];dsimp only;split
  ·have hx:h2.length∉X:=λz=>wp _ (R2.lt _ z);have r:Rep A X (h2++[O.ob (.dct (zA [] (is.zip ws)))]) (.ob (.dct (zA [] (is.zip ws)))) (.ref h2.length):=by
    unfold Rep;exact⟨h2.length,rfl,hx,by simp,D8 (k9 is kf) rfl⟩
   refine Sim.le (n:=h2.length) ⟨_,_,rfl,Frm.app A h2 _,R2.up _,r,λ_=>Frs.ofD R2 r⟩ f2.1
  ·exact Sim.stuck
 | .dlst a,A,X,h,M,σ,σh,R,rs=>by rw[pe];exact Sim.stuck
theorem QD:∀(e:Es) (A X:List Nat) (h:AH) (M:Mem) (σ:TS) (σh:List (Option V)),RelM gl A X h M->jc A X h σ σh->Sim gl A X h (QEs gl A X h.length) (pes gl P e σ M) (evs F e σh h)
 | .nil,A,X,h,M,σ,σh,R,rs=>by
  rw[pes,evs];have r:qM A X h [] []:=by unfold qM;rfl
  exact⟨[],h,rfl,Frm.refl A h,R,r,λ_=>Frss.of_lf R r rfl⟩
 | .cons a as,A,X,h,M,σ,σh,R,rs=>by
  rw[pes,evs];dsimp only;refine Sim.bind (qa a A X h M σ σh R rs) ?_;intro x M1 v h1 f1 R1 q1;dsimp only;obtain⟨fp1,hp1,R1',hlt1⟩:∃fp1:List Nat,(x.2=true->FP X h1 x.1 v fp1/\fp1.Nodup)/\RelM gl A (X++fp1) h1 M1/\∀a∈fp1,h.length<=a:=by
   cases hx2:x.2 with
   |true=>
    obtain⟨fp2,a,b,c,d,_⟩:=q1.2 hx2;exact⟨fp2,λ_=>⟨a,b⟩,d,c⟩
   |false=>exact⟨[],(λz=>by cases z),by rw[wd];exact R1,λa ha=>by simp at ha⟩
  have hX:∀a∈X,a∈X++fp1:=λa z=>wN _ z;have hn:∀a o,a∉X->h[a]?=some o->a∉X++fp1/\h1[a]?=some o:=λa o x y=>⟨by
   rw[wF];rintro(z|z)
   ·exact x z
   ·have:=hlt1 a z;have:=qA y;omega,(R.keepN f1 a o x y).2⟩
  refine Sim.bindW hX R.sub (Frm.refl A h1) (QD as A (X++fp1) h1 M1 σ σh R1' (jL (λ_ _ e=>e) hn rs)) ?_;intro y M2 w h2 f2 R2 q2;dsimp only;refine⟨_,h2,rfl,f2,R2.weak hX R.sub,?_,λe=>?_⟩
  ·show qM A X h2 (x.1::y.map (·.1)) (v::w);unfold qM;exact⟨v,w,rfl,R1.keep f2 q1.1,qQ (λ_ _ e=>e) (λa o x y=>⟨λz=>x (hX _ z),y⟩) _ q2.1⟩
  ·rw[List.all_cons,wE]at e;obtain⟨a1,b1⟩:=hp1 e.1;obtain⟨fp2,a2,b2,c2,d2⟩:=q2.2 e.2;refine⟨fp1++fp2,?_,?_,?_,by rw[<-wm];exact d2⟩
   ·show FPs X h2 (x.1::y.map (·.1)) (v::w) _;unfold FPs;exact⟨v,w,fp1,fp2,rfl,ZX (R1.keepN f2) _ a1,zt (λa o x y=>⟨λz=>x (hX _ z),y⟩) _ a2,rfl⟩
   ·rw[wn];refine⟨b1,b2,?_⟩;rintro a ha b hb rfl;exact(ju _ a2 a hb).1 (wQ _ ha)
   ·intro a ha;rcases wF.mp ha with z|z
    ·exact hlt1 a z
    ·exact wS f1.1 (c2 a z)
theorem qDN:∀(e:Es) (A X:List Nat) (h:AH) (M:Mem) (σ:TS) (σh:List (Option V)),RelM gl A X h M->jc A X h σ σh->Sim gl A X h (λb b' _ _=>b=b') (pec gl P e σ M) (evc F e σh h)
 | .nil,A,X,h,M,σ,σh,R,rs=>by
  rw[pec,evc];exact⟨true,h,rfl,Frm.refl A h,R,rfl⟩
 | .cons a as,A,X,h,M,σ,σh,R,rs=>by
  rw[pec,evc];exact N9 (qa a A X h M σ σh R rs)
theorem qAs:∀(e:Itr) (A X:List Nat) (h:AH) (M:Mem) (σ:TS) (σh:List (Option V)),RelM gl A X h M->jc A X h σ σh->Sim gl A X h (λs sh h' _=>Qw A X h' sh s.1 s.2) (pei gl P e σ M) (evi F e σh h)
 | .list a,A,X,h,M,σ,σh,R,rs=>by
  rw[pei,evi];dsimp only;refine Sim.bind (qa a A X h M σ σh R rs) ?_;intro x M1 v h1 f1 R1 q1;dsimp only;refine tJ λs es=>?_;obtain⟨p,sh,rfl,e1,e2⟩:=qCc R1 q1.1 es;exact⟨sh,h1,e1,Frm.refl A h1,R1,e2⟩
 | .rng1 a,A,X,h,M,σ,σh,R,rs=>by
  rw[pei,evi];dsimp only;refine Sim.bind (qa a A X h M σ σh R rs) ?_;intro x M1 v h1 f1 R1 q1;dsimp only;obtain⟨t,fr⟩:=x;dsimp only;split
  ·cases zI q1.1;dsimp only;split
   ·exact⟨_,h1,rfl,Frm.refl A h1,R1,.rng 0 _⟩
   ·exact Sim.stuck
  ·exact Sim.stuck
 | .enum a,A,X,h,M,σ,σh,R,rs=>by
  rw[pei,evi];dsimp only;refine Sim.bind (qa a A X h M σ σh R rs) ?_;intro x M1 v h1 f1 R1 q1;dsimp only;refine tJ λs es=>?_;obtain⟨p,vs,rfl,e1,e2⟩:=qCS R1 q1.1 es;dsimp only;rw[e1];exact⟨_,h1,rfl,Frm.refl A h1,R1,.enum p _ _ e2⟩
end
end
mutual
theorem g7{X Af Xf:List Nat}{h:AH}(hX:∀a o,(∀vs,o≠O.lst false vs)->h[a]?=some o->a∉X->a∉Xf):∀(t:T) (n:Nat){w:V}{fp:List Nat},FP X h t w fp->(∀(k:Nat) a,fp[k]?=some a->Af[n+k]?=some a) ->
  (thaw n t).2.length=fp.length/\Rep Af Xf h (thaw n t).1 w/\∀(k:Nat) ts',(thaw n t).2[k]?=some ts'->∃a vs,fp[k]?=some a/\h[a]?=some (.lst false vs)/\qM Af Xf h ts' vs
 | .v x,n,w,fp,p,ha=>by unfold FP at p;obtain⟨p1,rfl⟩:=p;rw[show thaw n (.v x)=(.v x,[]) by simp[thaw]];exact⟨rfl,by unfold Rep;exact p1,λk ts' e=>by simp at e⟩
 | .cell _,n,w,fp,p,ha=>by unfold FP at p;exact p.elim
 | .ob o,n,w,fp,p,ha=>by unfold FP at p;obtain⟨⟨a,rfl,q1,q2,q3⟩,rfl⟩:=p;rw[show thaw n (.ob o)=(.ob o,[]) by simp[thaw]];exact⟨rfl,by unfold Rep;exact⟨a,rfl,hX a _ (by intro _ z;cases z) q2 q1,q2,q3⟩,λk ts' e=>by simp at e⟩
 | .fz _,n,w,fp,p,ha=>by unfold FP at p;exact p.elim
 | .dt _ _,n,w,fp,p,ha=>by unfold FP at p;exact p.elim
 | .lst ts,n,w,fp,p,ha=>by
  unfold FP at p;obtain⟨a,vs,f,rfl,q1,q2,q3,rfl⟩:=p;obtain⟨l,r,c⟩:=JC hX ts n q3 (λk a e=>ha k a (by rw[wC (wB.mp e).1];exact e));rw[thaw];refine⟨by simp[l],?_,λk ts' e=>?_⟩
  ·show Rep Af Xf h (.cell _) _;unfold Rep;refine⟨a,ha _ a ?_,rfl⟩;rw[l,wa (wM _),Nat.sub_self];rfl
  ·dsimp only at e;by_cases hk:k<f.length
   ·rw[wC (by rw[l];exact hk)]at e;obtain⟨b,us,e1,e2,e3⟩:=c k ts' e;exact⟨b,us,by rw[wC hk];exact e1,e2,e3⟩
   ·rw[wa (by rw[l];omega),l]at e;have hk2:k-f.length=0:=by
     have:=(wB.mp e).1;simp at this;omega
    rw[hk2]at e;simp at e;subst e;exact⟨a,vs,by rw[wa (by omega),hk2];rfl,q2,r⟩
 | .tup ts,n,w,fp,p,ha=>by
  unfold FP at p;obtain⟨a,vs,rfl,q1,q2,q3⟩:=p;obtain⟨l,r,c⟩:=JC hX ts n q3 ha;rw[thaw];refine⟨l,?_,c⟩;show Rep Af Xf h (.tup _) _;unfold Rep;exact⟨a,vs,rfl,hX a _ (by intro _ z;cases z) q2 q1,q2,r⟩
theorem JC{X Af Xf:List Nat}{h:AH}(hX:∀a o,(∀vs,o≠O.lst false vs)->h[a]?=some o->a∉X->a∉Xf):∀(ts:List T) (n:Nat){ws:List V}{fp:List Nat},FPs X h ts ws fp->(∀(k:Nat) a,fp[k]?=some a->Af[n+k]?=some a) ->
  (jw n ts).2.length=fp.length/\qM Af Xf h (jw n ts).1 ws/\∀(k:Nat) ts',(jw n ts).2[k]?=some ts'->∃a vs,fp[k]?=some a/\h[a]?=some (.lst false vs)/\qM Af Xf h ts' vs
 | [],n,ws,fp,p,ha=>by unfold FPs at p;obtain⟨rfl,rfl⟩:=p;rw[jw];exact⟨rfl,by unfold qM;rfl,λk ts' e=>by simp at e⟩
 |t::ts,n,ws,fp,p,ha=>by
  unfold FPs at p;obtain⟨v,vs,f1,f2,rfl,q1,q2,rfl⟩:=p;obtain⟨l1,r1,c1⟩:=g7 hX t n q1 (λk a e=>ha k a (by rw[wC (wB.mp e).1];exact e));obtain⟨l2,r2,c2⟩:=JC hX ts (n+(thaw n t).2.length) q2 (λk a e=>by
   have:=ha (f1.length+k) a (by rw[wa (by omega),Nat.add_sub_cancel_left];exact e);rw[l1,Nat.add_assoc];exact this)
  rw[jw];refine⟨by dsimp only;rw[wV,wV,l2,l1],?_,λk ts' e=>?_⟩
  ·show qM Af Xf h (_::_) _;unfold qM;exact⟨v,vs,rfl,r1,r2⟩
  ·dsimp only at e;by_cases hk:k<f1.length
   ·rw[wC (by rw[l1];exact hk)]at e;obtain⟨b,us,e1,e2,e3⟩:=c1 k ts' e;exact⟨b,us,by rw[wC hk];exact e1,e2,e3⟩
   ·rw[wa (by rw[l1];omega)]at e;obtain⟨b,us,e1,e2,e3⟩:=c2 _ ts' e;rw[l1]at e1;exact⟨b,us,by rw[wa (by omega)];exact e1,e2,e3⟩
end
theorem RelM.thaw{gl:List T}{A X fp:List Nat}{h:AH}{M:Mem}{t:T}{w:V}(R:RelM gl A (X++fp) h M)(hA:∀a∈A,a∈X)(p:FP X h t w fp)(nd:fp.Nodup):
  RelM gl (A++fp) (X++fp) h (M++(_P.thaw M.length t).2)/\Rep (A++fp) (X++fp) h (_P.thaw M.length t).1 w:=by
 have hX:∀a o,(∀vs,o≠O.lst false vs)->h[a]?=some o->a∉X->a∉X++fp:=λa o hno e x=>by
  rw[wF];rintro(z|z)
  ·exact x z
  ·obtain⟨_,us,e2⟩:=F6 t p a z;rw[e]at e2;cases e2;exact hno _ rfl
 obtain⟨l,r,c⟩:=g7 (Af:=A++fp) hX t M.length p (λk a e=>by rw[<-R.len,wa (by omega),Nat.add_sub_cancel_left];exact e);refine⟨⟨by simp[R.len,l],?_,?_,R.lt,λn a e=>?_,λg t e=>?_⟩,r⟩
 ·rw[wn];exact⟨R.nd,nd,by rintro a ha b hb rfl;exact(F6 t p a hb).1 (hA a ha)⟩
 ·intro a ha;rcases wF.mp ha with z|z
  ·exact wN _ (hA a z)
  ·exact wQ _ z
 ·by_cases hn:n<A.length
  ·rw[wC hn]at e;obtain⟨ts,vs,e1,e2,e3⟩:=R.at_ n a e;exact⟨ts,vs,by rw[wC (by rw[<-R.len];exact hn)];exact e1,e2,qQ (λk b eb=>by rw[wC (wB.mp eb).1];exact eb) (λa o x y=>⟨x,y⟩) ts e3⟩
  ·rw[wa (by omega)]at e;have hk:n-A.length<(_P.thaw M.length t).2.length:=by rw[l];exact(wB.mp e).1
   obtain⟨b,us,e1,e2,e3⟩:=c (n-A.length) _ (wD hk);rw[e]at e1;cases e1;have hnm:n-M.length=n-A.length:=by rw[R.len]
   exact⟨_,us,by rw[wa (by rw[<-R.len];omega),hnm];exact wD hk,e2,e3⟩
 ·exact za (λk b eb=>by rw[wC (wB.mp eb).1];exact eb) (λa o x y=>⟨x,y⟩) t (R.glo g t e)
theorem Jg{A X:List Nat}{h:AH}(n:Nat):∀{ts:List T}{ws:List V},qM A X h ts ws->jc A X h (ts.map some++List.replicate n none) (ws.map some++List.replicate n none)
 | [],ws,r=>by
  unfold qM at r;subst r;show jc A X h (List.replicate n none) (List.replicate n none)
  induction n with
  |zero=>rfl
  |succ n ih=>exact⟨none,_,rfl,trivial,ih⟩
 |t::ts,ws,r=>by
  unfold qM at r;obtain⟨v,vs,rfl,a,b⟩:=r;exact⟨some v,_,rfl,a,Jg n b⟩
def RelO(gl:List T)(A X:List Nat)(n:Nat)(h:AH)(M:Mem):PO->Out->Prop
 | .nx σ,.nx σh=>jc A X h σ σh
 | .bk σ,.bk σh=>jc A X h σ σh
 | .ct σ,.ct σh=>jc A X h σ σh
 | .rt t,.rt w=>QE gl A X n t w h M
 |_,_=>False
theorem RelO.le{gl:List T}{A X:List Nat}{n m:Nat}{h:AH}{M:Mem}{o:PO}{oh:Out}(r:RelO gl A X n h M o oh)(l:m<=n):RelO gl A X m h M o oh:=by
 cases o<;>cases oh<;>first|exact r|exact QE.le r l
def SimS(gl:List T)(A X:List Nat)(h:AH):RSt->RS->Prop
 | .ok (o,M'),r=>∃oh h' B,r=.ok (oh,h')/\Frm A h h'/\(∀b∈B,h.length<=b)/\RelM gl (A++B) (X++B) h' M'/\RelO gl (A++B) (X++B) h.length h' M' o oh
 | .exc c M',r=>∃h' B,r=.exc c h'/\Frm A h h'/\(∀b∈B,h.length<=b)/\RelM gl (A++B) (X++B) h' M'
 | .stuck,_=>True
theorem SimS.stuck{gl:List T}{A X:List Nat}{h:AH}{r:RS}:SimS gl A X h .stuck r:=trivial
theorem SimS.mk{gl:List T}{A X:List Nat}{h:AH}{M:Mem}{o:PO}{oh:Out}(R:RelM gl A X h M)(ro:RelO gl A X h.length h M o oh):SimS gl A X h (.ok (o,M)) (.ok (oh,h)):=
 ⟨oh,h,[],rfl,Frm.refl A h,λb hb=>by simp at hb,by simpa using R,by simpa using ro⟩
theorem SimS.pre{gl:List T}{A X:List Nat}{h h1:AH}{r:RSt}{rh:RS}(s:SimS gl A X h1 r rh)(f:Frm A h h1):SimS gl A X h r rh:=by
 cases r with
 |ok p=>
  obtain⟨o,M'⟩:=p;obtain⟨oh,h',B,e,f1,hB,R,ro⟩:=s;exact⟨oh,h',B,e,f.trans f1,λb hb=>wS f.1 (hB b hb),R,ro.le f.1⟩
 |exc c M'=>
  obtain⟨h',B,e,f1,hB,R⟩:=s;exact⟨h',B,e,f.trans f1,λb hb=>wS f.1 (hB b hb),R⟩
 |stuck=>trivial
theorem Sim.bindS{α β:Type}{gl:List T}{A X:List Nat}{h:AH}{Q:α->β->AH->Mem->Prop}{r:PR (α×Mem)}{rh:Res (β×AH)}{f:α×Mem->RSt}{g:β×AH->RS}
  (s:Sim gl A X h Q r rh) (k:∀x M' y h',Frm A h h'->RelM gl A X h' M'->Q x y h' M'->SimS gl A X h' (f (x,M')) (g (y,h'))):SimS gl A X h (r.bind f) (rh.bind g):=by
 cases r with
 |ok p=>
  obtain⟨x,M'⟩:=p;obtain⟨y,h',rfl,f1,R1,q⟩:=s;exact(k x M' y h' f1 R1 q).pre f1
 |exc c M'=>
  obtain⟨h',rfl,f1,R1⟩:=s;exact⟨h',[],rfl,f1,λb hb=>by simp at hb,by simpa using R1⟩
 |stuck=>trivial
theorem SimS.bind{gl:List T}{A X:List Nat}{h:AH}{r:RSt}{rh:RS}{f:PO×Mem->RSt}{g:Out×AH->RS}
  (s:SimS gl A X h r rh) (k:∀o M' oh h' B,Frm A h h'->(∀b∈B,h.length<=b)->RelM gl (A++B) (X++B) h' M'->RelO gl (A++B) (X++B) h.length h' M' o oh->SimS gl (A++B) (X++B) h' (f (o,M')) (g (oh,h'))\/(f (o,M')=.ok (o,M')/\g (oh,h')=.ok (oh,h'))):SimS gl A X h (r.bind f) (rh.bind g):=by
 cases r with
 |ok p=>
  obtain⟨o,M'⟩:=p;obtain⟨oh,h',B,rfl,f1,hB,R,ro⟩:=s;rw[tD,tF];rcases k o M' oh h' B f1 hB R ro with s2|⟨e1,e2⟩
  ·revert s2;generalize f (o,M')=r2;generalize g (oh,h')=rh2;intro s2;cases r2 with
   |ok p2=>
    obtain⟨o2,M2⟩:=p2;obtain⟨oh2,h2,B2,rfl,f2,hB2,R2,ro2⟩:=s2;rw[wm,wm]at R2 ro2;exact⟨oh2,h2,B++B2,rfl,f1.trans2 hB f2,λb hb=>by
     rcases wF.mp hb with z|z
     ·exact hB b z
     ·exact wS f1.1 (hB2 b z),R2,ro2.le f1.1⟩
   |exc c M2=>
    obtain⟨h2,B2,rfl,f2,hB2,R2⟩:=s2;rw[wm,wm]at R2;exact⟨h2,B++B2,rfl,f1.trans2 hB f2,λb hb=>by
     rcases wF.mp hb with z|z
     ·exact hB b z
     ·exact wS f1.1 (hB2 b z),R2⟩
   |stuck=>trivial
  ·rw[e1,e2];exact⟨oh,h',B,rfl,f1,hB,R,ro⟩
 |exc c M'=>
  obtain⟨h',B,rfl,f1,hB,R⟩:=s;exact⟨h',B,rfl,f1,hB,R⟩
 |stuck=>trivial
theorem D4{A X B:List Nat}{h h':AH}(hs:∀a∈A,a∈X)(f:Frm A h h')(hB:∀b∈B,h.length<=b):∀a o,a∉X->h[a]?=some o->a∉X++B/\h'[a]?=some o:=λa o x y=>⟨by
 rw[wF];rintro(z|z)
 ·exact x z
 ·have:=hB a z;have:=qA y;omega,(f.2 a (qA y) λz=>x (hs _ z)).trans y⟩
theorem jV{A B:List Nat}:∀(n:Nat) a,A[n]?=some a->(A++B)[n]?=some a:=λn a e=>by rw[wC (wB.mp e).1];exact e
theorem d8{gl:List T}{s:Src}{its:List T}{d:QK}{g:Tg}{b:TS->Mem->RSt}{b':List (Option V)->AH->RS}
  (hb:∀A X h M σ σh,RelM gl A X h M->jc A X h σ σh->SimS gl A X h (b σ M) (b' σh h)):∀(r:List T) (i:Nat) (σ:TS) (σh:List (Option V)) (M:Mem) (h:AH) (A X:List Nat),
   its.drop i=r->i<=its.length->RelM gl A X h M->Qw A X h s its d->jc A X h σ σh->SimS gl A X h (zJ d g b r σ M) (Jr s g b' r.length i σh h)
 | [],i,σ,σh,M,h,A,X,hr,hi,R,sr,rs=>by
  have hi':i=its.length:=by
   have:=vt.mp hr;omega
  subst hi';show SimS gl A X h (.ok (.nx σ,M)) (if jF h its.length s then _ else _);rw[if_pos (Jl sr)];exact SimS.mk R rs
 |x::r,i,σ,σh,M,h,A,X,hr,hi,R,sr,rs=>by
  have ex:its[i]?=some x:=by
   have:(its.drop i)[0]?=some x:=by rw[hr];rfl
   rwa [List.getElem?_drop,Nat.add_zero]at this
  have hi2:i+1<=its.length:=(wB.mp ex).1;have hr2:its.drop (i+1)=r:=by
   rw[<-List.drop_drop,hr];rfl
  obtain⟨w,ext,ey,rx⟩:=ZM R sr ex;have fy:Frm A h (h++ext):=Frm.app A h ext;rw[List.length_cons];unfold zJ Jr;rw[ey];dsimp only;cases es:zN g x σ with
  |none=>exact SimS.stuck
  |some σ1=>
   obtain⟨σh1,esh,rs1⟩:=je es rx (R.keepS fy rs);rw[esh];dsimp only;refine SimS.bind ((hb A X _ M σ1 σh1 (R.up ext) rs1).pre fy) ?_;intro o M2 oh h2 B f2 hB R2 ro;have nxt:∀σ2 σh2,jc (A++B) (X++B) h2 σ2 σh2->SimS gl (A++B) (X++B) h2 (if qe d M2=true then zJ d g b r σ2 M2 else .stuck) (Jr s g b' r.length (i+1) σh2 h2):=λσ2 σh2 rs2=>by
    split
    ·rename_i hd;exact d8 hb r (i+1) σ2 σh2 M2 h2 _ _ hr2 hi2 R2 (ZG sr (D4 R.sub f2 hB) R2 hd jV) rs2
    ·exact SimS.stuck
   cases o with
   |nx σ2=>cases oh<;>first|exact .inl (nxt _ _ ro)|exact ro.elim
   |ct σ2=>cases oh<;>first|exact .inl (nxt _ _ ro)|exact ro.elim
   |bk σ2=>cases oh<;>first|exact .inl (SimS.mk R2 ro)|exact ro.elim
   |rt t=>cases oh<;>first|exact .inr ⟨rfl,rfl⟩|exact ro.elim
section
variable{gl:List T}{P:Nat->List T->Mem->PR (TB×Mem)}{F:Nat->List V->AH->RV}(C:List Nat)
variable (hF:∀f ts ws A X h M,RelM gl A X h M->qM A X h ts ws->Sim gl A X h (QE gl A X h.length) (P f ts M) (F f ws h))
include hF
omit hF in
omit hF in
def qHh(gl:List T)(A X:List Nat)(h:AH):PR (TB×Mem)->RV->Prop
 | .ok ((.lst ts,_),M1),r=>∃h1 vs,r=.ok (.ref h1.length,h1++[.lst false vs])/\Frm A h h1/\RelM gl A X h1 M1/\qM A X h1 ts vs
 |_,_=>True
omit hF in
theorem RelM.cellN{gl:List T}{A X:List Nat}{h:AH}{M:Mem}{ts:List T}{vs:List V}(R:RelM gl A X h M)(r:qM A X h ts vs):RelM gl (A++[h.length]) (X++[h.length]) (h++[.lst false vs]) (M++[ts]):=by
 have hn:∀a o,a∉X->h[a]?=some o->a∉X++[h.length]/\(h++[O.lst false vs])[a]?=some o:=D4 R.sub (Frm.app A h _) (λb hb=>by simp at hb;omega);refine⟨by simp[R.len],?_,λa ha=>?_,λa ha=>?_,λn a e=>?_,λg t e=>za jV hn t (R.glo g t e)⟩
 ·rw[wn];refine⟨R.nd,by simp,λa ha b hb=>?_⟩;have:=R.lt a (R.sub a ha);simp at hb;omega
 ·rcases wF.mp ha with z|z
  ·exact wN _ (R.sub a z)
  ·exact wQ _ z
 ·rcases wF.mp ha with z|z
  ·have:=R.lt a z;simp;omega
  ·simp at z;simp[z]
 ·by_cases hlt:n<A.length
  ·rw[wC hlt]at e;obtain⟨us,ws,e1,e2,e3⟩:=R.at_ n a e;exact⟨us,ws,by rw[wC (by rw[<-R.len];exact hlt)];exact e1,by rw[wC (qA e2)];exact e2,qQ jV hn us e3⟩
  ·have hl:=(wB.mp e).1;have hnn:n=A.length:=by simp at hl;omega
   subst hnn;simp at e;subst e;exact⟨ts,vs,by rw[R.len];simp,by simp,qQ jV hn ts r⟩
omit hF in
theorem T6{e:E}(h:qC6 e=true):(∃as,e=.lst as)\/∃a b,e=.bin .add a b:=by
 unfold qC6 at h;split at h
 ·exact .inr ⟨_,_,rfl⟩
 ·exact .inl ⟨_,rfl⟩
 ·cases h
theorem qBl(e:E)(he:qC6 e=true)(A X:List Nat)(h:AH)(M:Mem)(σ:TS)(σh:List (Option V))(R:RelM gl A X h M)(rs:jc A X h σ σh):qHh gl A X h (pe gl P e σ M) (ev F e σh h):=by
 rcases T6 he with⟨as,rfl⟩|⟨a,b,rfl⟩
 ·rw[pe,ev];dsimp only;have s1:=QD hF as A X h M σ σh R rs;revert s1;generalize pes gl P as σ M=r;generalize evs F as σh h=rh;intro s1;cases r with
  |stuck=>trivial
  |exc c M'=>trivial
  |ok p=>
   obtain⟨x,M1⟩:=p;obtain⟨w,h1,rfl,f1,R1,q⟩:=s1;rw[tD,tF];dsimp only;rw[<-q.len];split
   ·exact⟨h1,w,rfl,f1,R1,q.1⟩
   ·trivial
 ·rw[pe,ev];dsimp only;have s1:=qa hF a A X h M σ σh R rs;revert s1;generalize pe gl P a σ M=r;generalize ev F a σh h=rh;intro s1;cases r with
  |stuck=>trivial
  |exc c M'=>trivial
  |ok p=>
   obtain⟨x,M1⟩:=p;obtain⟨v,h1,rfl,f1,R1,q1⟩:=s1;rw[tD,tF];dsimp only;have s2:=qa hF b A X h1 M1 σ σh R1 (R.keepS f1 rs);revert s2;generalize pe gl P b σ M1=r;generalize ev F b σh h1=rh;intro s2;cases r with
   |stuck=>trivial
   |exc c M'=>trivial
   |ok p=>
    obtain⟨y,M2⟩:=p;obtain⟨w,h2,rfl,f2,R2,q2⟩:=s2;rw[tD,tF];dsimp only;have rx:=R1.keep f2 q1.1;cases eb:qg M2 .add x.1 y.1 with
    |none=>trivial
    |some r=>
     rw[PR.ofO_some,tD];unfold qg at eb;split at eb
     ·cases eb;trivial
     ·cases eb
     ·rename_i e1 e2;dsimp only at eb;split at eb
      ·split at eb
       ·cases eb;trivial
       ·cases eb
      rename_i u0 u1 u2;clear u2;obtain⟨xs,m1,eb⟩:=wI.mp eb;obtain⟨ys,m2,eb⟩:=wI.mp eb;split at eb
      ·rename_i hl;cases eb;obtain⟨a1,vs,rfl,g1,k1⟩:=d5 R2 rx m1;obtain⟨a2,us,rfl,g2,k2⟩:=d5 R2 q2.1 m2;refine⟨h2,vs++us,?_,f1.trans f2,R2,reps_iff.mpr (zQ (reps_iff.mp k1) (reps_iff.mp k2))⟩;show (match qz h2 a1,qz h2 a2 with|some xs,some ys=>if xs.length+ys.length<=lim then newL (xs++ys) h2 else .stuck|_,_=>_)=_;rw[g1,g2];dsimp only;rw[<-qG (reps_iff.mp k1),<-qG (reps_iff.mp k2),if_pos hl];rfl
      ·cases eb
     ·cases eb
omit hF in
omit hF in
omit hF in
omit hF in
omit hF in
omit hF in
omit hF in
omit hF in
def SimN(gl:List T)(A X:List Nat)(D n0:Nat)(h:AH):RSt->RS->Prop
 | .ok (o,M'),r=>∃oh h',r=.ok (oh,h')/\Frm (A++[D]) h h'/\RelM gl A X h' M'/\RelO gl A X n0 h' M' o oh
 | .exc _ _,_=>False
 | .stuck,_=>True
omit hF in
theorem SimN.pre{A X:List Nat}{D n0:Nat}{h h1:AH}{r:RSt}{rh:RS}(s:SimN gl A X D n0 h1 r rh)(f:Frm (A++[D]) h h1):SimN gl A X D n0 h r rh:=by
 match r,s with
 | .ok (o,M'),⟨oh,h',e,f1,R,ro⟩=>exact⟨oh,h',e,f.trans f1,R,ro⟩
 | .exc _ _,z=>exact z.elim
 | .stuck,_=>trivial
omit hF in
theorem Frm.more{A:List Nat}{D:Nat}{h h':AH}(f:Frm A h h'):Frm (A++[D]) h h':=⟨f.1,λj hj hA=>f.2 j hj λz=>hA (wN _ z)⟩
def SimD(gl:List T)(A X:List Nat)(D u:Nat)(h:AH):PR ((List Int×List T×TS)×Mem)->RS->Prop
 | .ok (q,M'),r=>∃σh h' vs,r=.ok (.nx σh,h')/\Frm (A++[D]) h h'/\RelM gl A X h' M'/\jc A X h' q.2.2 σh/\h'[D]?=some (.ob (.dct (q.1.zip vs)))/\q.1.length=vs.length/\(∀v∈vs,flat v=false)/\qM A X h' q.2.1 vs/\σh[u]?=some (some (.ref D))
 | .exc _ _,_=>False
 | .stuck,_=>True
omit hF in
theorem SimD.pre{A X:List Nat}{D u:Nat}{h h1:AH}{r:PR ((List Int×List T×TS)×Mem)}{rh:RS}(s:SimD gl A X D u h1 r rh)(f:Frm (A++[D]) h h1):SimD gl A X D u h r rh:=by
 match r,s with
 | .ok (q,M'),⟨σh,h',vs,e,f1,z⟩=>exact⟨σh,h',vs,e,f.trans f1,z⟩
 | .exc _ _,z=>exact z.elim
 | .stuck,_=>trivial
omit hF in
theorem C5{ks:List Int}{vs:List V}{k:Int}{v:V}(l:ks.length=vs.length)(hk:k∉ks):QF (ks.zip vs) k v=(ks++[k]).zip (vs++[v]):=by
 have:Qz (ks.zip vs) k=false:=by
  unfold Qz;rw[List.any_eq_false];rintro⟨a,b⟩ hp;have:=vy hp;simp only[uJ];rintro rfl;exact hk this.1
 unfold QF;rw[this,if_neg (by decide),List.zip_append l];rfl
mutual
theorem qEu:∀(s:S) (A X:List Nat) (h:AH) (M:Mem) (σ:TS) (σh:List (Option V)),RelM gl A X h M->jc A X h σ σh->SimS gl A X h (px gl P C s σ M) (ex F s σh h)
 | .asg g e,A,X,h,M,σ,σh,R,rs=>by
  rw[px,ex];dsimp only;have se:=qa hF e A X h M σ σh R rs;have tp:=λhe=>qBl hF e he A X h M σ σh R rs;revert se tp;generalize pe gl P e σ M=r;generalize ev F e σh h=rh;intro se tp;cases r with
  |stuck=>trivial
  |exc c M'=>
   obtain⟨h',rfl,f1,R1⟩:=se;exact⟨h',[],rfl,f1,λb hb=>by simp at hb,by simpa using R1⟩
  |ok p=>
   obtain⟨x,M1⟩:=p;obtain⟨w,h1,rfl,f1,R1,q⟩:=se;rw[tD,tF];dsimp only;have gen:∀{g:Tg}{σ1:TS},zN g x.1 σ=some σ1->SimS gl A X h (.ok (.nx σ1,M1)) (match store g w σh h1 with|some σ1=>.ok (.nx σ1,h1)|none=>.stuck):=λe=>by
    obtain⟨σh1,e2,rs2⟩:=je e q.1 (R.keepS f1 rs);rw[e2];exact(SimS.mk (o:=.nx _) (oh:=.nx _) R1 rs2).pre f1
   cases g with
   |name i=>
    dsimp only;split
    ·rename_i hc;rw[wE]at hc;obtain⟨fp,p,nd,l,R',_⟩:=q.2 hc.2;obtain⟨R2,r2⟩:=R'.thaw R.sub p nd;refine⟨.nx (σh.set i (some w)),h1,fp,rfl,f1,l,R2,?_⟩;exact jK i (jL jV (D4 R.sub f1 l) rs) (show qCj _ _ h1 (some _) (some w) from r2)
    ·split
     ·rename_i hc;rw[wE]at hc;have tp:=tp hc.2;obtain⟨x1,x2⟩:=x;dsimp only;split
      ·rename_i ts;obtain⟨h0,vs,e0,f0,R0,r0⟩:=tp;cases e0;refine⟨.nx (σh.set i (some (.ref h0.length))),_,[h0.length],rfl,f0.trans (Frm.app A h0 _),λb hb=>by simp at hb;have:=f0.1;omega,R0.cellN r0,?_⟩;refine jK i (jL jV (D4 R0.sub (Frm.app A h0 _) (λb hb=>by simp at hb;omega)) (R.keepS f0 rs)) (show qCj _ _ _ (some _) (some _) from ?_);have rc:Rep (A++[h0.length]) (X++[h0.length]) (h0++[O.lst false vs]) (.cell M1.length) (.ref h0.length):=by
        unfold Rep;exact⟨h0.length,by rw[<-R0.len];simp,rfl⟩
       exact rc
      ·exact SimS.stuck
     ·exact gen (g:=.name i) rfl
   |tup is=>
    dsimp only;split
    ·rename_i σ1 e;exact gen e
    ·exact SimS.stuck
 | .put o i v,A,X,h,M,σ,σh,R,rs=>by
  rw[px,ex];dsimp only;refine Sim.bindS (qa hF v A X h M σ σh R rs) ?_;intro x M1 vx h1 f1 R1 q1;dsimp only;refine Sim.bindS (qa hF o A X h1 M1 σ σh R1 (R.keepS f1 rs)) ?_;intro y M2 w h2 f2 R2 q2;dsimp only;refine Sim.bindS (qa hF i A X h2 M2 σ σh R2 (R1.keepS f2 (R.keepS f1 rs))) ?_;intro z M3 u h3 f3 R3 q3;dsimp only;obtain⟨ty,fy⟩:=y;obtain⟨tz,fz⟩:=z;dsimp only;split
  ·rename_i n k;cases zI q3.1;have q:=R2.keep f3 q2.1;unfold Rep at q;obtain⟨p,ep,rfl⟩:=q;obtain⟨ts2,vs2,g1,g2,g3⟩:=R3.at_ n p ep;rw[g1];dsimp only;rw[show qz h3 p=some vs2 by unfold qz;rw[g2]];dsimp only;rw[<-qG (reps_iff.mp g3)];split
   ·rename_i j ej
    try simp only[ej]
    obtain⟨R4,f4⟩:=R3.put ep (reps_iff.mpr (jK j (reps_iff.mp g3) (R2.keep f3 (R1.keep f2 q1.1))));exact(SimS.mk (o:=.nx σ) (oh:=.nx σh) R4 (R3.keepS f4 (R2.keepS f3 (R1.keepS f2 (R.keepS f1 rs))))).pre f4
   ·exact SimS.stuck
  ·exact SimS.stuck
 | .expr e,A,X,h,M,σ,σh,R,rs=>by
  rw[px,ex];dsimp only;refine Sim.bindS (qa hF e A X h M σ σh R rs) ?_;intro x M1 v h1 f1 R1 q1;dsimp only;exact SimS.mk (o:=.nx σ) (oh:=.nx σh) R1 (R.keepS f1 rs)
 | .ret e,A,X,h,M,σ,σh,R,rs=>by
  rw[px,ex];dsimp only;have se:=qa hF e A X h M σ σh R rs;revert se;generalize pe gl P e σ M=r;generalize ev F e σh h=rh;intro se;cases r with
  |stuck=>trivial
  |exc c M'=>
   obtain⟨h',rfl,f1,R1⟩:=se;exact⟨h',[],rfl,f1,λb hb=>by simp at hb,by simpa using R1⟩
  |ok p=>
   obtain⟨x,M1⟩:=p;obtain⟨w,h1,rfl,f1,R1,q⟩:=se;exact⟨.rt w,h1,[],rfl,f1,λb hb=>by simp at hb,by simpa using R1,by simpa using (show RelO gl A X h.length h1 M1 (.rt x) (.rt w) from q)⟩
 | .ifs c t u,A,X,h,M,σ,σh,R,rs=>by
  rw[px,ex];dsimp only;refine Sim.bindS (N9 (qa hF c A X h M σ σh R rs)) ?_;rintro x M1 v h1 f1 R1 rfl;dsimp only;cases x with
  |true=>simp only[if_true];exact Jq t A X h1 M1 σ σh R1 (R.keepS f1 rs)
  |false=>simp only[vF,if_false];exact Jq u A X h1 M1 σ σh R1 (R.keepS f1 rs)
 | .for_ g it b,A,X,h,M,σ,σh,R,rs=>by
  rw[px,ex];dsimp only;refine Sim.bindS (qAs hF it A X h M σ σh R rs) ?_;intro s M1 sh h1 f1 R1 q1;dsimp only;rw[J9 q1];exact d8 (λA X h M σ σh R rs=>Jq b A X h M σ σh R rs) s.1 0 σ σh M1 h1 A X rfl (vU _) R1 q1 (R.keepS f1 rs)
 | .dfor x d b,A,X,h,M,σ,σh,R,rs=>by rw[px];exact SimS.stuck
 | .orc,A,X,h,M,σ,σh,R,rs=>by rw[px];exact SimS.stuck
 | .stop,A,X,h,M,σ,σh,R,rs=>by rw[px,ex];exact SimS.stuck
theorem Jq:∀(s:Ss) (A X:List Nat) (h:AH) (M:Mem) (σ:TS) (σh:List (Option V)),RelM gl A X h M->jc A X h σ σh->SimS gl A X h (pxs gl P C s σ M) (exs F s σh h)
 | .nil,A,X,h,M,σ,σh,R,rs=>by rw[pxs,exs];exact SimS.mk (o:=.nx σ) (oh:=.nx σh) R rs
 | .cons s r,A,X,h,M,σ,σh,R,rs=>by
  rw[pxs,exs];dsimp only;refine SimS.bind (qEu s A X h M σ σh R rs) ?_;intro o M1 oh h1 B f1 hB R1 ro;cases o with
  |nx σ2=>cases oh<;>first|exact .inl (Jq r _ _ h1 M1 _ _ R1 ro)|exact ro.elim
  |ct σ2=>cases oh<;>first|exact .inr ⟨rfl,rfl⟩|exact ro.elim
  |bk σ2=>cases oh<;>first|exact .inr ⟨rfl,rfl⟩|exact ro.elim
  |rt t=>cases oh<;>first|exact .inr ⟨rfl,rfl⟩|exact ro.elim
end
end
section
variable{gl:List T}{A X B:List Nat}{h h':AH}{M M1:Mem}
theorem mapM_cons{α β:Type}{f:α->Option β}{x:α}{xs:List α}{ys:List β}(e:(x::xs).mapM f=some ys):∃y ys',f x=some y/\xs.mapM f=some ys'/\ys=y::ys':=by
 rw[vn]at e;cases hf:f x with
 |none=>rw[hf]at e;cases e
 |some y=>
  rw[hf]at e;cases hg:xs.mapM f with
  |none=>rw[hg]at e;cases e
  |some ys'=>rw[hg]at e;cases e;exact⟨y,ys',rfl,rfl,rfl⟩
theorem mapM_nil{α β:Type}{f:α->Option β}{ys:List β}(e:([]:List α).mapM f=some ys):ys=[]:=by
 rw[List.mapM_nil]at e;cases e;rfl
theorem jf{A1 X1:List Nat}{f:T->Option T}(hf:∀t t' w,f t=some t'->Rep A1 X1 h t w->Rep A X h t' w):∀{ts ts':List T}{vs:List V},ts.mapM f=some ts'->qM A1 X1 h ts vs->qM A X h ts' vs
 | [],ts',vs,e,r=>by cases mapM_nil e;unfold qM at r ⊢;exact r
 |t::ts,ts',vs,e,r=>by
  obtain⟨y,ys,e1,e2,rfl⟩:=mapM_cons e;unfold qM at r ⊢;obtain⟨v,vs',rfl,a,b⟩:=r;exact⟨v,vs',rfl,hf _ _ _ e1 a,jf hf e2 b⟩
theorem P6(R:RelM gl (A++B) (X++B) h M1)(hB:∀b∈B,b∉X):∀(d:Nat) (t t':T) (w:V),qR M1 A.length d t=some t'->Rep (A++B) (X++B) h t w->Rep A X h t' w:=by
 have hu:∀(t:T) (w:V),t.und A.length=true->Rep (A++B) (X++B) h t w->Rep A X h t w:=λt w u r=>c7 (λn hn=>wC hn) (λa ha=>wN _ ha) t r u;have hX:∀a,a∉X++B->a∉X:=λa x z=>x (wN _ z);intro d
 induction d with
 |zero=>
  intro t t' w e r;unfold qR at e;split at e
  ·rename_i u;cases e;exact hu _ w u r
  ·cases e
 |succ d ih=>
  intro t t' w e r;unfold qR at e;split at e
  ·rename_i u;cases e;exact hu _ w u r
  ·rename_i u;cases t with
   |v x=>cases e
   |ob o=>cases e
   |dt ks ts=>cases e
   |fz ts=>cases e
   |lst ts=>
    obtain⟨ts',e1,rfl⟩:=wA.mp e;unfold Rep at r ⊢;obtain⟨a,vs,rfl,q1,q2,q3⟩:=r;exact⟨a,vs,rfl,hX a q1,q2,jf ih e1 q3⟩
   |tup ts=>
    obtain⟨ts',e1,rfl⟩:=wA.mp e;unfold Rep at r ⊢;obtain⟨a,vs,rfl,q1,q2,q3⟩:=r;exact⟨a,vs,rfl,hX a q1,q2,jf ih e1 q3⟩
   |cell n=>
    obtain⟨ts,e0,e⟩:=wI.mp (show (M1[n]?).bind _=_ from e);obtain⟨ts',e1,rfl⟩:=wA.mp e;have hn:A.length<=n:=by
     unfold T.und at u;simpa using u
    unfold Rep at r ⊢;obtain⟨a,ea,rfl⟩:=r;obtain⟨ts2,vs,g1,g2,g3⟩:=R.at_ n a ea;rw[e0]at g1;cases g1;rw[wa hn]at ea;exact⟨a,vs,rfl,hB a (wT ea),g2,jf ih e1 g3⟩
mutual
theorem U9(n:Nat):∀(t:T),t.lf=true->t.und n=true
 | .v x,_=>rfl
 | .cell _,l=>by unfold T.lf at l;cases l
 | .ob _,_=>rfl
 | .dt _ _,l=>by unfold T.lf at l;cases l
 | .fz _,l=>by unfold T.lf at l;cases l
 | .lst _,l=>by unfold T.lf at l;cases l
 | .tup ts,l=>by unfold T.lf at l;unfold T.und;exact JE n ts l
theorem JE(n:Nat):∀(ts:List T),T.lfs ts=true->T.unds n ts=true
 | [],_=>rfl
 |t::ts,l=>by unfold T.lfs at l;rw[wE]at l;unfold T.unds;rw[U9 n t l.1,JE n ts l.2];rfl
end
theorem V8{n0:Nat}{f:T->Option (List Nat)}(hf:∀t l,f t=some l->t.und n0=true->t.lf=true):∀{ts:List T}{ls:List (List Nat)},ts.mapM f=some ls->T.unds n0 ts=true->T.lfs ts=true
 | [],ls,e,u=>rfl
 |t::ts,ls,e,u=>by
  obtain⟨y,ys,e1,e2,rfl⟩:=mapM_cons e;unfold T.unds at u;rw[wE]at u;unfold T.lfs;rw[hf t _ e1 u.1,V8 hf e2 u.2];rfl
theorem k8{n0:Nat}:∀(d:Nat) (t:T) (l:List Nat),jP M1 n0 d t=some l->t.und n0=true->t.lf=true:=by
 intro d
 induction d with
 |zero=>intro t l e u;unfold jP at e;split at e<;>first|assumption|cases e
 |succ d ih=>
  intro t l e u;unfold jP at e;split at e
  ·assumption
  ·cases t with
   |tup ts=>
    obtain⟨ls,e1,rfl⟩:=wA.mp e;unfold T.und at u;unfold T.lf;exact V8 ih e1 u
   |cell n=>
    dsimp only at e;split at e
    ·rename_i hn;unfold T.und at u;simp at u;omega
    ·cases e
   |v x=>cases e
   |ob o=>cases e
   |dt ks ts=>cases e
   |fz ts=>cases e
   |lst ts=>cases e
theorem Za{A1 X1:List Nat}{n0:Nat}{f:T->Option (List Nat)}{g:T->Option T}(hf:∀t l t' w,f t=some l->g t=some t'->Rep A1 X1 h t w->∃fp,FP X h t' w fp/\fp.map some=l.map (A1[·]?)/\∀n∈l,n0<=n):
  ∀{ts ts':List T}{ls:List (List Nat)}{vs:List V},ts.mapM f=some ls->ts.mapM g=some ts'->qM A1 X1 h ts vs->∃fp,FPs X h ts' vs fp/\fp.map some=ls.flatten.map (A1[·]?)/\∀n∈ls.flatten,n0<=n
 | [],ts',ls,vs,e,e',r=>by
  cases mapM_nil e;cases mapM_nil e';unfold qM at r;exact⟨[],by unfold FPs;exact⟨r,rfl⟩,rfl,λn hn=>by simp at hn⟩
 |t::ts,ts',ls,vs,e,e',r=>by
  obtain⟨y,ys,e1,e2,rfl⟩:=mapM_cons e;obtain⟨z,zs,e3,e4,rfl⟩:=mapM_cons e';unfold qM at r;obtain⟨v,vs',rfl,a,b⟩:=r;obtain⟨f1,p1,q1,n1⟩:=hf _ _ _ _ e1 e3 a;obtain⟨f2,p2,q2,n2⟩:=Za hf e2 e4 b;refine⟨f1++f2,by unfold FPs;exact⟨v,vs',f1,f2,rfl,p1,p2,rfl⟩,by simp[q1,q2],λn hn=>?_⟩;rw[List.flatten_cons]at hn;rcases wF.mp hn with z|z
  ·exact n1 n z
  ·exact n2 n z
theorem Qb{n0:Nat}{d:Nat}{t t':T}(u:t.und n0=true)(e:qR M1 n0 d t=some t'):t'=t:=by
 cases d<;>(unfold qR at e;rw[if_pos u]at e;cases e;rfl)
theorem qAC(R:RelM gl (A++B) (X++B) h M1)(hB:∀b∈B,b∉X):∀(d:Nat) (t:T) (l:List Nat) (t':T) (w:V),jP M1 A.length d t=some l->qR M1 A.length d t=some t'->Rep (A++B) (X++B) h t w ->
  ∃fp,FP X h t' w fp/\fp.map some=l.map ((A++B)[·]?)/\∀n∈l,A.length<=n:=by
 have hX:∀a,a∉X++B->a∉X:=λa x z=>x (wN _ z);have lfc:∀{d:Nat}{t t':T}{w:V},t.lf=true->qR M1 A.length d t=some t'->Rep (A++B) (X++B) h t w->∃fp:List Nat,FP X h t' w fp/\fp.map some=([]:List Nat).map ((A++B)[·]?)/\∀n∈([]:List Nat),A.length<=n:=by
  intro d t t' w l e r;cases Qb (U9 _ t l) e;exact⟨[],ZX (λa o x y=>⟨hX a x,y⟩) _ (qCA _ r l),rfl,λn hn=>by simp at hn⟩
 intro d
 induction d with
 |zero=>
  intro t l t' w e e' r;unfold jP at e;split at e
  ·rename_i hl;cases e;exact lfc hl e' r
  ·cases e
 |succ d ih=>
  intro t l t' w e e' r;unfold jP at e;split at e
  ·rename_i hl;cases e;exact lfc hl e' r
  ·rename_i hl;have hu:t.und A.length≠true:=λu=>hl (k8 (M1:=M1) (d+1) t l (by unfold jP;rw[if_neg hl];exact e) u);unfold qR at e';rw[if_neg hu]at e';cases t with
   |tup ts=>
    obtain⟨ls,e1,rfl⟩:=wA.mp e;obtain⟨ts',e2,rfl⟩:=wA.mp e';unfold Rep at r;obtain⟨a,vs,rfl,q1,q2,q3⟩:=r;obtain⟨fp,p1,p2,p3⟩:=Za ih e1 e2 q3;exact⟨fp,by unfold FP;exact⟨a,vs,rfl,hX a q1,q2,p1⟩,p2,p3⟩
   |cell n=>
    dsimp only at e e';split at e
    ·rename_i hn;obtain⟨ts,e0,e⟩:=wI.mp e;obtain⟨ls,e1,rfl⟩:=wA.mp e;rw[e0]at e';dsimp only[Option.bind_some]at e';obtain⟨ts',e2,rfl⟩:=wA.mp e';unfold Rep at r;obtain⟨a,ea,rfl⟩:=r;obtain⟨ts2,vs,g1,g2,g3⟩:=R.at_ n a ea;rw[e0]at g1;cases g1;obtain⟨fp,p1,p2,p3⟩:=Za ih e1 e2 g3;have ea2:=ea;rw[wa hn]at ea2;refine⟨fp++[a],by unfold FP;exact⟨a,vs,fp,rfl,hB a (wT ea2),g2,p1,rfl⟩,?_,λm hm=>?_⟩
     ·rw[wk,wk,p2];simp[ea]
     ·rcases wF.mp hm with z|z
      ·exact p3 m z
      ·simp at z;omega
    ·cases e
   |v x=>cases e
   |ob o=>cases e
   |dt ks ts=>cases e
   |fz ts=>cases e
   |lst ts=>cases e
theorem Ze{X' Y:List Nat}(R:RelM gl (A++B) Y h M1)(hX:∀a∈X',a∈Y)(hA:∀a∈A,a∈X')(hc:(M1.take A.length).all (T.unds A.length)=true)(hg:∀(g:Nat) t,gl[g]?=some t->Rep A X' h t (.ref g)):RelM gl A X' h (M1.take A.length):=by
 have l:=R.len;rw[wV]at l;refine⟨by rw[vZ];omega,(wn.mp R.nd).1,hA,λa ha=>R.lt a (hX a ha),λn a e=>?_,hg⟩;have hn:=(wB.mp e).1;obtain⟨ts,vs,e1,e2,e3⟩:=R.at_ n a (jV n a e);refine⟨ts,vs,by rw[vA hn];exact e1,e2,jM (λn hn=>wC hn) hX ts e3 ?_⟩;rw[List.all_eq_true]at hc;refine hc ts (wT (i:=n) ?_);rw[vA hn];exact e1
theorem O2{M:Mem}{n0 d:Nat}{t:T}{o:Ob}(h:qR M n0 d t=some (.ob o)):t=.ob o:=by
 cases d with
 |zero=>
  unfold qR at h;split at h
  ·cases h;rfl
  ·cases h
 |succ d=>
  unfold qR at h;split at h
  ·cases h;rfl
  ·cases t with
   |lst ts=>cases hh:ts.mapM (qR M n0 d)<;>simp[hh]at h
   |tup ts=>cases hh:ts.mapM (qR M n0 d)<;>simp[hh]at h
   |cell n=>
    cases hm:M[n]? with
    |none=>simp[hm]at h
    |some ts=>cases hh:ts.mapM (qR M n0 d)<;>simp[hm,hh]at h
   |_=>cases h
theorem JJ(R0:RelM gl A X h M)(f:Frm A h h')(hB:∀b∈B,h.length<=b)(R:RelM gl (A++B) (X++B) h' M1){x:TB}{w:V}(q:QE gl (A++B) (X++B) h.length x w h' M1):Sim gl A X h (QE gl A X h.length) (finish M.length x M1) (.ok (w,h')):=by
 have hBX:∀b∈B,b∉X:=λb z y=>by have:=hB b z;have:=R0.lt b y;omega
 have hX:∀a,a∉X++B->a∉X:=λa x z=>x (wN _ z);have hg:∀{Z:List Nat},(∀a∈Z,h.length<=a)->∀(g:Nat) t,gl[g]?=some t->Rep A (X++Z) h' t (.ref g):=λhZ g t e=>za (λ_ _ e=>e) (λa o x y=>⟨by
   rw[wF];rintro(z|z)
   ·exact x z
   ·have:=hZ a z;have:=qA y;omega,(R0.keepN f a o x y).2⟩) t (R0.glo g t e)
 unfold finish;rw[<-R0.len];split
 ·rename_i hl;have hB0:B=[]:=by
   have:=R.len;rw[wV,hl]at this;exact wq.mp (by omega)
  subst hB0;rw[wd,wd]at R q;exact⟨w,h',rfl,f,R,q⟩
 split
 ·rename_i hc;refine tJ λt' et=>?_;have R':RelM gl A X h' (M1.take A.length):=by
   have:=Ze (X':=X++[]) R (λa ha=>by simp at ha;exact wN _ ha) (λa ha=>by simp;exact R0.sub a ha) hc (hg λa ha=>by simp at ha);simpa using this
  refine⟨w,h',rfl,f,R',P6 R hBX 6 _ _ _ et q.1,λe=>?_⟩;rw[vf]at e;rcases e with e|e
  ·obtain⟨fp,p,nd,l,Rf,nw⟩:=q.2 e;cases Qb (qA3 A.length _ p) et;have cr:∀{Z:List Nat},(∀a∈Z,h.length<=a)->RelM gl (A++B) (X++B++Z) h' M1->RelM gl A (X++Z) h' (M1.take A.length):=λ{Z} hZ q=>Ze q (λa ha=>by
    rcases wF.mp ha with z|z
    ·exact wN _ (wN _ z)
    ·exact wQ _ z) (λa ha=>wN _ (R0.sub a ha)) hc (hg hZ)
   exact⟨fp,ZX (λa o x y=>⟨hX a x,y⟩) _ p,nd,l,cr l Rf,λkvs e=>by
    obtain⟨a,q1,q2,q3⟩:=nw kvs e;exact⟨a,q1,q2,cr (λz hz=>by rw[wP.mp hz];exact q2) q3⟩⟩
  ·unfold frR at e;split at e
   ·rename_i l el;have ndl:l.Nodup:=by simpa using e
    obtain⟨fp,p,pm,pn⟩:=qAC R hBX 6 _ _ _ _ el et q.1;have fB:∀a∈fp,a∈B:=λa ha=>by
     have:some a∈fp.map some:=List.mem_map_of_mem ha;rw[pm]at this;obtain⟨n,hn,en⟩:=wW.mp this;rw[wa (pn n hn)]at en;exact wT en
    have nd:fp.Nodup:=by
     have:(fp.map some).Nodup:=by
      rw[pm];refine List.pairwise_map.mpr (List.Pairwise.imp_of_mem ?_ ndl);intro n m hn hm hnm e;have:(A++B)[n]?∈fp.map some:=by rw[pm];exact List.mem_map_of_mem hn
      obtain⟨a,_,ea⟩:=wW.mp this;exact hnm ((List.getElem?_inj (wB.mp ea.symm).1 R.nd).mp e)
     exact(List.pairwise_map.mp this).imp λ{a b} z e=>z (by rw[e])
    refine⟨fp,p,nd,λa ha=>hB a (fB a ha),Ze R (λa ha=>?_) (λa ha=>wN _ (R0.sub a ha)) hc (hg λa ha=>hB a (fB a ha)),λkvs e=>by have e:t'=.ob (.dct kvs):=e;subst e;rw[O2 et]at el;simp[jP,T.lf]at el⟩;rcases wF.mp ha with z|z
    ·exact wN _ z
    ·exact wQ _ (fB a z)
   ·cases e
 ·exact Sim.stuck
end
def l4(gl:List T)(tb:List Fn)(Cs:List (List Nat))(k:Nat):Prop:=∀(f:Nat) (ts:List T) (ws:List V) (A X:List Nat) (h:AH) (M:Mem),RelM gl A X h M->qM A X h ts ws->Sim gl A X h (QE gl A X h.length) (Pk gl tb Cs k f ts M) (Fk tb k f ws h)
def OrcOk(gl:List T)(tb:List Fn)(Cs:List (List Nat)):Prop:=∀(k f:Nat) (d:Fn),8<=k->tb[f]?=some d->ZZ d.body=true->(∀j,j<=k->l4 gl tb Cs j)->∀(ts:List T) (ws:List V) (A X:List Nat) (h:AH) (M:Mem),RelM gl A X h M->qM A X h ts ws->Sim gl A X h (QE gl A X h.length) (qD6 ts M) (Fk tb (k+1) f ws h)
theorem OrcOk.none{gl:List T}{tb:List Fn}{Cs:List (List Nat)}(h:(tb.all λd=>!ZZ d.body)=true):OrcOk gl tb Cs:=λk f d _ e hc=>by
 rw[List.all_eq_true]at h;have:=h d (wT e);rw[hc]at this;cases this
theorem qEC{gl:List T}{tb:List Fn}{Cs:List (List Nat)}{k:Nat}(hO:OrcOk gl tb Cs)(ih:∀j,j<=k->l4 gl tb Cs j):l4 gl tb Cs (k+1):=by
  intro f ts ws A X h M R rs;have hOk:=hO k f;unfold Pk;cases ed:tb[f]? with
  |none=>exact Sim.stuck
  |some d=>
   dsimp only;split
   ·rename_i hc;split
    ·rename_i h8;exact hOk d h8 ed hc ih ts ws A X h M R rs
    ·exact Sim.stuck
   unfold Fk;rw[ed];dsimp only;rw[<-qG (reps_iff.mp rs)];split
   ·have s:=Jq (Cs.getD f []) (ih k (wM k)) d.body A X h M _ _ R (Jg (d.nslot-d.npar) rs);revert s;generalize pxs gl (Pk gl tb Cs k) (Cs.getD f []) d.body (ts.map some++List.replicate (d.nslot-d.npar) none) M=r;generalize exs (Fk tb k) d.body (ws.map some++List.replicate (d.nslot-d.npar) none) h=rh;intro s;cases r with
    |stuck=>exact Sim.stuck
    |exc c M1=>
     obtain⟨h',B,rfl,f1,hB,R1⟩:=s;show Sim gl A X h _ (if _ then _ else if _ then _ else _) _;split
     ·rename_i hl;have hB0:B=[]:=by
       have:=R1.len;rw[wV,hl,R.len]at this;exact wq.mp (by omega)
      subst hB0;rw[wd,wd]at R1;exact⟨h',rfl,f1,R1⟩
     split
     ·rename_i hc;refine⟨h',rfl,f1,?_⟩;rw[<-R.len]at hc ⊢;exact Ze R1 (λa ha=>wN _ ha) R.sub hc λg t e=>R.keep f1 (R.glo g t e)
     ·exact Sim.stuck
    |ok p=>
     obtain⟨o,M1⟩:=p;obtain⟨oh,h',B,rfl,f1,hB,R1,ro⟩:=s;rw[tF];cases o with
     |nx σ=>
      cases oh<;>first|exact ro.elim|skip
      have r:Rep (A++B) (X++B) h' (.v .non) .non:=by unfold Rep;exact⟨rfl,rfl⟩
      exact JJ R f1 hB R1 (show QE gl (A++B) (X++B) h.length (.v .non,true) .non h' M1 from⟨r,λ_=>Frs.of_lf R1 r rfl⟩)
     |rt t=>
      cases oh<;>first|exact ro.elim|skip
      exact JJ R f1 hB R1 ro
     |bk σ=>exact Sim.stuck
     |ct σ=>exact Sim.stuck
   ·exact Sim.stuck
theorem qB7(gl:List T)(tb:List Fn)(Cs:List (List Nat))(hO:OrcOk gl tb Cs):∀(k j:Nat),j<=k->l4 gl tb Cs j
 | 0,j,hj=>by
  obtain rfl:j=0:=by omega
  exact λf ts ws A X h M R rs=>Sim.stuck
 |k+1,j,hj=>by
  by_cases h:j<=k
  ·exact qB7 gl tb Cs hO k j h
  ·obtain rfl:j=k+1:=by omega
   exact qEC hO λj hj=>qB7 gl tb Cs hO k j hj
noncomputable def glT(gs:List O):List T:=gs.map λo=>match o with | .tup xs=>.tup (xs.map .v) | .lst _ xs=>.fz (xs.map .v) | .ob _=>.v .non
noncomputable def qDB(gs:List O):Bool:=gs.all λo=>match o with | .tup xs=>xs.all flat|_=>false
theorem qC4{gs:List O}{tb:List Fn}{Cs:List (List Nat)}{k i:Nat}{ns:List Int}{b:Bool}{M':Mem}(hO:OrcOk (glT gs) tb Cs)(hg:qDB gs=true)(e:Pk (glT gs) tb Cs k i [.fz (ns.map λn=>.v (.int n))] []=.ok ((.v (.bl true),b),M')):
  ∃h',Fk tb k i [.ref gs.length] (gs++[.lst true (ns.map V.int)])=.ok (.bl true,h'):=by
 have R:RelM (glT gs) [] [] (gs++[.lst true (ns.map V.int)]) []:=by
  refine⟨rfl,vW,λa ha=>by simp at ha,λa ha=>by simp at ha,λn a e=>by simp at e,λg t eg=>?_⟩;unfold glT at eg;rw[wg]at eg;obtain⟨o,eo,rfl⟩:=wA.mp eg;unfold qDB at hg;rw[List.all_eq_true]at hg;have ho:=hg o (wT eo);cases o with
  |lst _ _=>cases ho
  |ob _=>cases ho
  |tup xs=>
   dsimp only;unfold Rep;exact⟨g,xs,rfl,by simp,by rw[wC (wB.mp eo).1];exact eo,QU ho⟩
 have rs:qM [] [] (gs++[O.lst true (ns.map V.int)]) [.fz (ns.map λn=>.v (.int n))] [.ref gs.length]:=by
  unfold qM;refine⟨_,[],rfl,?_,by unfold qM;rfl⟩;unfold Rep;refine⟨gs.length,ns.map V.int,rfl,by simp,by simp,?_⟩;have:ns.map (λn=>T.v (.int n))=(ns.map V.int).map .v:=by rw[vI];rfl
  rw[this];exact QU (by simp[flat])
 have s:=qB7 (glT gs) tb Cs hO k k (wM k) i _ _ [] [] _ [] R rs;rw[e]at s;obtain⟨w,h',e1,_,_,q⟩:=s;cases zI q.1;exact⟨h',e1⟩
theorem qAo{tb:List Fn}{j:Nat}{d:Fn}{b:Ss}(e:tb[j]?=some d)(hb:∀F σ h,exs F d.body σ h=exs F b σ h):∀(k f:Nat) (vs:List V) (h:AH),Fk tb k f vs h=Fk (tb.set j ⟨d.npar,d.nslot,b⟩) k f vs h
 | 0,_,_,_=>rfl
 |k+1,f,vs,h=>by
  have ih:Fk tb k=Fk (tb.set j ⟨d.npar,d.nslot,b⟩) k:=by funext f vs h;exact qAo e hb k f vs h
  unfold Fk;by_cases hf:f=j
  ·subst hf;rw[e,wb (wB.mp e).1,ih];dsimp only;rw[hb]
  ·rw[wX (Ne.symm hf),ih]
noncomputable def qGa(t:T):Option TB:=match t with | .v (.int i)=>some (iT (-i))|_=>none
noncomputable def qCl(M:Mem)(p k x:T):Option Mem:=match p,k with
 | .cell n,.v (.int j)=>(M[n]?).bind λxs=>(_L.ixN xs.length j).map λj=>M.set n (xs.set j x)
 |_,_=>none
noncomputable def qEa(M:Mem)(n:Nat)(x:T):Option Mem:=(M[n]?).bind λxs=>if xs.length<lim then some (M.set n (xs++[x])) else none
noncomputable def qCk(t:T):Option (List T):=match t with | .v (.int j)=>if -1000000<=j/\j<=1000000 then some (jQ 0 j.toNat) else none|_=>none
section
variable{gl:List T}{P:Nat->List T->Mem->PR (TB×Mem)}{C:List Nat}{σ:TS}{M:Mem}{a b c e:E}{as lo hi:Es}
@[simp] theorem pe_var(i:Nat):pe gl P (.var i) σ M=match σ[i]? with|some (some t)=>.ok ((t,t.lf),M)|_=>.stuck:=Eq.trans rfl rfl
@[simp] theorem pe_int(i:Int):pe gl P (.cst (.int i)) σ M=.ok (iT i,M):=Eq.trans rfl rfl
@[simp] theorem pe_bl(i:Bool):pe gl P (.cst (.bl i)) σ M=.ok (bT i,M):=Eq.trans rfl rfl
@[simp] theorem pe_non:pe gl P (.cst .non) σ M=.ok ((.v .non,true),M):=Eq.trans rfl rfl
@[simp] theorem pe_str(s:PySem.Str):pe gl P (.cst (.str s)) σ M=.ok ((.v (.str s),true),M):=Eq.trans rfl rfl
@[simp] theorem pe_glob(g:Nat):pe gl P (.glob g) σ M=match gl[g]? with|some t=>.ok ((t,t.lf),M)|none=>.stuck:=Eq.trans rfl rfl
@[simp] theorem qEG(op:BOp):pe gl P (.bin op a b) σ M=(pe gl P a σ M).bind λp=>(pe gl P b σ p.2).bind λq=>(tH (qg q.2 op p.1.1 q.1.1)).bind λr=>.ok (r,q.2):=Eq.trans rfl rfl
@[simp] theorem qCt(op:COp):pe gl P (.cmp op a b) σ M=(pe gl P a σ M).bind λp=>(pe gl P b σ p.2).bind λq=>(tH (zB q.2 op p.1.1 q.1.1)).bind λr=>.ok (bT r,q.2):=Eq.trans rfl rfl
@[simp] theorem qE5(o1 o2:COp):pe gl P (.cmp2 o1 o2 a b c) σ M=(pe gl P a σ M).bind λp=>(pe gl P b σ p.2).bind λq=>(tH (zB q.2 o1 p.1.1 q.1.1)).bind λr=>
  if r=true then (pe gl P c σ q.2).bind λz=>(tH (zB z.2 o2 q.1.1 z.1.1)).bind λr=>.ok (bT r,z.2) else .ok (bT false,q.2):=Eq.trans rfl rfl
@[simp] theorem pe_and:pe gl P (.and a b) σ M=(pB (pe gl P a σ M)).bind λp=>if p.1=true then pe gl P b σ p.2 else .ok (bT false,p.2):=Eq.trans rfl rfl
@[simp] theorem pe_or:pe gl P (.or a b) σ M=(pB (pe gl P a σ M)).bind λp=>if p.1=true then .ok (bT true,p.2) else pe gl P b σ p.2:=Eq.trans rfl rfl
@[simp] theorem pe_not:pe gl P (.not a) σ M=(pB (pe gl P a σ M)).bind λp=>.ok (bT (!p.1),p.2):=Eq.trans rfl rfl
@[simp] theorem qGO:pe gl P (.ite c a b) σ M=(pB (pe gl P c σ M)).bind λp=>if p.1=true then pe gl P a σ p.2 else pe gl P b σ p.2:=Eq.trans rfl rfl
@[simp] theorem pe_call(f:Nat):pe gl P (.call f as) σ M=(pes gl P as σ M).bind λp=>(P f (p.1.map (·.1)) p.2).nx:=Eq.trans rfl rfl
@[simp] theorem qAe(f:BF):pe gl P (.blt f as) σ M=(pes gl P as σ M).bind λp=>(tH (jS p.2 f (p.1.map (·.1)))).bind λr=>.ok (r,p.2):=Eq.trans rfl rfl
@[simp] theorem qGX(ts:List String):pe gl P (.isi a ts) σ M=(pe gl P a σ M).bind λp=>(tH (jA p.2 p.1.1)).bind λt=>.ok (bT (ts.any (jY t)),p.2):=Eq.trans rfl rfl
@[simp] theorem qGv:pe gl P (.idx a b) σ M=(pe gl P a σ M).bind λp=>(pe gl P b σ p.2).bind λq=>(tH (zP q.2 p.1.1 q.1.1)).bind λr=>.ok (r,q.2):=Eq.trans rfl rfl
@[simp] theorem qHj:pe gl P (.sl a lo hi) σ M=(pe gl P a σ M).bind λp=>(pes gl P lo σ p.2).bind λl=>(pes gl P hi σ l.2).bind λu=>
  (tH (p.1.1.its u.2)).bind λxs=>(tH (qk (l.1.map (·.1)))).bind λi=>(tH (qk (u.1.map (·.1)))).bind λj=>(tH (qA8 p.1.1 xs i.head? j.head?)).bind λr=>.ok (r,u.2):=Eq.trans rfl rfl
@[simp] theorem qEY:pe gl P (.index a b) σ M=(pe gl P a σ M).bind λp=>(tH (p.1.1.sel a.isGlob p.2)).bind λ_=>(pe gl P b σ p.2).bind λq=>(tH (D7 a.isGlob q.2 p.1.1 q.1.1)).bind λr=>.ok (r,q.2):=Eq.trans rfl rfl
@[simp] theorem pe_lst:pe gl P (.lst as) σ M=(pes gl P as σ M).bind λp=>if p.1.length<=lim then .ok ((.lst (p.1.map (·.1)),p.1.all (·.2)),p.2) else .stuck:=Eq.trans rfl rfl
@[simp] theorem pe_tup:pe gl P (.tup as) σ M=(pes gl P as σ M).bind λp=>if p.1.length<=lim then .ok ((.tup (p.1.map (·.1)),p.1.all (·.2)),p.2) else .stuck:=Eq.trans rfl rfl
@[simp] theorem pe_comp(it:Itr)(src:List (Option Nat))(g:Tg)(c:Es):pe gl P (.comp it src g c e) σ M=(pei gl P it σ M).bind λp=>qP p.1.2 g (pec gl P c) (pe gl P e) p.1.1 [] true (jG src σ) p.2:=Eq.trans rfl rfl
@[simp] theorem qGE:pe gl P (.app a b) σ M=(pe gl P a σ M).bind λp=>match p.1.1 with
  | .cell n=>(pe gl P b σ p.2).bind λq=>(tH (qEa q.2 n q.1.1)).bind λM'=>.ok ((.v .non,true),M')
  |_=>.stuck:=by
 show PR.bind _ _=_;dsimp only;congr 1;funext p;obtain⟨⟨p1,p3⟩,p2⟩:=p;dsimp only;cases p1<;>dsimp only;congr 1;funext q;obtain⟨⟨q1,q3⟩,q2⟩:=q;dsimp only;unfold qEa;rename_i n;cases h:q2[n]? with
 |none=>rfl
 |some xs=>
  dsimp only[Option.bind_some];split<;>rfl
@[simp] theorem qGV:pe gl P (.dix a b) σ M=(pe gl P a σ M).bind λp=>(pe gl P b σ p.2).bind λq=>(tH (qEd p.1.1 q.1.1)).bind λr=>.ok (r,q.2):=Eq.trans rfl rfl
@[simp] theorem qFP:pe gl P (.dzip a b) σ M=(pe gl P a σ M).bind λp=>(pe gl P b σ p.2).bind λq=>(tH (p.1.1.lis q.2)).bind λxs=>(tH (q.1.1.lis q.2)).bind λys=>(tH (qk xs)).bind λis=>(tH (zX ys)).bind λvs=>
  if is.length<=lim/\vs.all flat=true then .ok ((.ob (.dct (zA [] (is.zip vs))),true),q.2) else .stuck:=Eq.trans rfl rfl
@[simp] theorem qE3:pe gl P .dnew σ M=.ok ((.ob (.dct []),true),M):=Eq.trans rfl rfl
@[simp] theorem U5:pes gl P .nil σ M=.ok ([],M):=Eq.trans rfl rfl
@[simp] theorem K1:pes gl P (.cons a as) σ M=(pe gl P a σ M).bind λp=>(pes gl P as σ p.2).bind λq=>.ok (p.1::q.1,q.2):=Eq.trans rfl rfl
@[simp] theorem zO:pec gl P .nil σ M=.ok (true,M):=Eq.trans rfl rfl
@[simp] theorem qw:pec gl P (.cons a as) σ M=pB (pe gl P a σ M):=Eq.trans rfl rfl
@[simp] theorem qEj:pei gl P (.list a) σ M=(pe gl P a σ M).bind λp=>(tH (ZE p.2 p.1.1)).bind λs=>.ok (s,p.2):=Eq.trans rfl rfl
@[simp] theorem E9:pei gl P (.rng1 a) σ M=(pe gl P a σ M).bind λp=>(tH (qCk p.1.1)).bind λxs=>.ok ((xs,[]),p.2):=by
 show PR.bind _ _=_;dsimp only;congr 1;funext p;obtain⟨⟨p1,p3⟩,p2⟩:=p;dsimp only;unfold qCk;cases p1<;>first|rfl|skip
 rename_i x;cases x<;>first|rfl|skip
 dsimp only;split<;>rfl
@[simp] theorem qEp:pei gl P (.enum a) σ M=(pe gl P a σ M).bind λp=>(tH (qAi p.2 p.1.1)).bind λs=>.ok ((jt 0 s.1,s.2),p.2):=Eq.trans rfl rfl
variable{s:S}{r t u:Ss}
@[simp] theorem Zi(i:Nat):px gl P C (.asg (.name i) e) σ M=(pe gl P e σ M).bind λp=>if (C.contains i&&p.1.2)=true then .ok (.nx (σ.set i (some (thaw p.2.length p.1.1).1)),p.2++(thaw p.2.length p.1.1).2) else if (C.contains (i+1000)&&qC6 e)=true then (match p.1.1 with | .lst ts=>.ok (.nx (σ.set i (some (.cell p.2.length))),p.2++[ts])|_=>.stuck) else .ok (.nx (σ.set i (some p.1.1)),p.2):=Eq.trans rfl rfl
@[simp] theorem qGc(is:List Nat):px gl P C (.asg (.tup is) e) σ M=(pe gl P e σ M).bind λp=>match zN (.tup is) p.1.1 σ with|some σ1=>.ok (.nx σ1,p.2)|none=>.stuck:=Eq.trans rfl rfl
@[simp] theorem qGT{o i v:E}:px gl P C (.put o i v) σ M=(pe gl P v σ M).bind λx=>(pe gl P o σ x.2).bind λp=>(pe gl P i σ p.2).bind λk=>(tH (qCl k.2 p.1.1 k.1.1 x.1.1)).bind λM'=>.ok (.nx σ,M'):=by
 show PR.bind _ _=_;dsimp only;congr 1;funext x;congr 1;funext p;congr 1;funext k;obtain⟨⟨k1,k3⟩,k2⟩:=k;obtain⟨⟨p1,p3⟩,p2⟩:=p;dsimp only;unfold qCl;cases p1<;>first|rfl|skip
 rename_i n;cases k1<;>first|rfl|skip
 rename_i y;cases y<;>first|rfl|skip
 rename_i j;dsimp only;cases h:k2[n]? with
 |none=>rfl
 |some xs=>
  dsimp only[Option.bind_some];have hj:_P.ixN xs.length j=_L.ixN xs.length j:=rfl;rw[hj];cases _L.ixN xs.length j with
  |none=>rfl
  |some j=>rfl
@[simp] theorem qFY:px gl P C (.expr e) σ M=(pe gl P e σ M).bind λp=>.ok (.nx σ,p.2):=Eq.trans rfl rfl
@[simp] theorem qDE:px gl P C (.ret e) σ M=(pe gl P e σ M).bind λp=>.ok (.rt p.1,p.2):=Eq.trans rfl rfl
@[simp] theorem qGS:px gl P C (.ifs c t u) σ M=(pB (pe gl P c σ M)).bind λp=>if p.1=true then pxs gl P C t σ p.2 else pxs gl P C u σ p.2:=Eq.trans rfl rfl
@[simp] theorem qGY(g:Tg)(it:Itr):px gl P C (.for_ g it t) σ M=(pei gl P it σ M).bind λp=>zJ p.1.2 g (pxs gl P C t) p.1.1 σ p.2:=Eq.trans rfl rfl
@[simp] theorem qEt:px gl P C .stop σ M=.stuck:=Eq.trans rfl rfl
@[simp] theorem qEw:pxs gl P C .nil σ M=.ok (.nx σ,M):=Eq.trans rfl rfl
@[simp] theorem Zx:pxs gl P C (.cons s r) σ M=(px gl P C s σ M).bind λp=>match p.1 with
  | .nx σ1=>pxs gl P C r σ1 p.2
  |o=>.ok (o,p.2):=Eq.trans rfl rfl
@[simp] theorem qHP(x:Bool):pB (.ok (bT x,M))=.ok (x,M):=Eq.trans rfl rfl
@[simp] theorem qIP(x f:Bool):pB (.ok ((T.v (.bl x),f),M))=.ok (x,M):=Eq.trans rfl rfl
@[simp] theorem qEg:pB .stuck=.stuck:=Eq.trans rfl rfl
@[simp] theorem qEb{α β:Type}(c:Nat)(M:Mem)(f:α->PR β):(PR.exc c M:PR α).bind f=.exc c M:=Eq.trans rfl rfl
end
@[simp] theorem qIM(x:V):T.lf (.v x)=true:=by rw[T.lf]
@[simp] theorem qCL(n:Nat):T.lf (.cell n)=false:=by rw[T.lf]<;>simp
@[simp] theorem qGZ(xs:List T):T.lf (.lst xs)=false:=by rw[T.lf]<;>simp
@[simp] theorem qGd(k:List (Int×V)):T.lf (.ob (.dct k))=false:=by simp[T.lf]
@[simp] theorem qGQ(xs:List T):T.lf (.tup xs)=T.lfs xs:=by rw[T.lf]
@[simp] theorem qFX:T.lfs []=true:=by rw[T.lfs]
@[simp] theorem Zv(x:T)(xs:List T):T.lfs (x::xs)=(x.lf&&T.lfs xs):=by rw[T.lfs]
@[simp] theorem iT1(i:Int):(iT i).1=.v (.int i):=rfl
@[simp] theorem iT2(i:Int):(iT i).2=true:=rfl
@[simp] theorem bT1(i:Bool):(bT i).1=.v (.bl i):=rfl
@[simp] theorem bT2(i:Bool):(bT i).2=true:=rfl
@[simp] theorem lT1(xs:List T):(lT xs).1=.lst xs:=rfl
@[simp] theorem lT2(xs:List T):(lT xs).2=T.lfs xs:=rfl
@[simp] theorem qHc(x:V):T.isV (.v x)=some x:=rfl
@[simp] theorem qB3(x:List T):T.isV (.lst x)=none:=rfl
@[simp] theorem qFy(x:List T):T.isV (.tup x)=none:=rfl
@[simp] theorem qEm(x:Nat):T.isV (.cell x)=none:=rfl
section
variable{M:Mem}(i j:Int) (xs ys:List T)
@[simp] theorem qF9:qg M .add (.v (.int i)) (.v (.int j))=some (iT (i+j)):=rfl
@[simp] theorem qDm:qg M .sub (.v (.int i)) (.v (.int j))=some (iT (i-j)):=rfl
@[simp] theorem qBr:qg M .band (.v (.int i)) (.v (.int j))=some (iT (PySem.Builtin.bitAnd i j)):=rfl
theorem qEP{i j:Int}(h:(-18446744073709551616<i/\i<18446744073709551616)\/(-18446744073709551616<j/\j<18446744073709551616)):qg M .mul (.v (.int i)) (.v (.int j))=some (iT (i*j)):=by
 show (if (QG i||QG j||(mid i&&mid j))=true then _ else _)=_;rw[if_pos];rcases h with h|h
 ·have:QG i=true:=by unfold QG two64;exact uI h
  rw[this];rfl
 ·have:QG j=true:=by unfold QG two64;exact uI h
  rw[this,Bool.or_true];rfl
theorem qBS{i j:Int}(h:0<j/\j<1073741824):qg M .fdiv (.v (.int i)) (.v (.int j))=some (iT (i / j)):=by
 show (if 0<j/\(j<1073741824\/mid j=true) then _ else _)=_;rw[if_pos ⟨h.1,.inl h.2⟩]
theorem qAV{i j:Int}(h:0<j):qg M .mod (.v (.int i)) (.v (.int j))=some (iT (i % j)):=by
 show (if 0<j then _ else _)=_;rw[if_pos h]
theorem qAj{i j:Int}(h:0<=j/\j<=1000/\i.natAbs<18446744073709551616):qg M .pow (.v (.int i)) (.v (.int j))=some (iT (i ^ j.toNat)):=by
 show (if 0<=j/\j<=1000/\i.natAbs<18446744073709551616 then _ else _)=_;rw[if_pos h]
theorem qDK{i j:Int}(h:0<=j/\j<=1000/\i.natAbs<18446744073709551616):qg M .shl (.v (.int i)) (.v (.int j))=some (iT (i*2 ^ j.toNat)):=by
 show (if 0<=j/\j<=1000/\i.natAbs<18446744073709551616 then _ else _)=_;rw[if_pos h]
theorem qA0{i j:Int}(h:0<=j/\j<=1000):qg M .shr (.v (.int i)) (.v (.int j))=some (iT (i / 2 ^ j.toNat)):=by
 show (if 0<=j/\j<=1000 then _ else _)=_;rw[if_pos h]
theorem J0{xs ys:List T}(h:xs.length+ys.length<=lim):qg M .add (.lst xs) (.lst ys)=some (lT (xs++ys)):=by
 show (if xs.length+ys.length<=lim then _ else _)=_;rw[if_pos h]
@[simp] theorem qFT:zB M .lt (.v (.int i)) (.v (.int j))=some (decide (i<j)):=rfl
@[simp] theorem qE0:zB M .le (.v (.int i)) (.v (.int j))=some (decide (i<=j)):=rfl
@[simp] theorem qFq:zB M .gt (.v (.int i)) (.v (.int j))=some (decide (j<i)):=rfl
@[simp] theorem qFl:zB M .ge (.v (.int i)) (.v (.int j))=some (decide (j<=i)):=rfl
@[simp] theorem qFv:zB M .eq (.v (.int i)) (.v (.int j))=some (decide (i=j)):=by
 show some (i==j)=_;congr 1
@[simp] theorem qF4:jS M .list [.lst xs]=some (lT xs):=rfl
@[simp] theorem qGG:jS M .list [.tup xs]=some (lT xs):=rfl
@[simp] theorem qDl:jS M .max [.v (.int i),.v (.int j)]=some (iT (if j>i then j else i)):=rfl
@[simp] theorem qCy:jS M .min [.v (.int i),.v (.int j)]=some (iT (if j<i then j else i)):=rfl
@[simp] theorem qHD:jS M .int [.v (.int i)]=some (iT i):=rfl
@[simp] theorem qIJ:jA M (.v (.int i))=some "int":=rfl
@[simp] theorem qIQ(b:Bool):jA M (.v (.bl b))=some "bool":=rfl
@[simp] theorem qIT:jA M (.lst xs)=some "list":=rfl
@[simp] theorem qIK:jA M (.tup xs)=some "tuple":=rfl
@[simp] theorem qIO(kvs:List (Int×V)):jA M (.ob (.dct kvs))=some "dict":=rfl
@[simp] theorem qIG:jA M (.v .non)=some "NoneType":=rfl
@[simp] theorem qG7:ZE M (.lst xs)=some (xs,[]):=rfl
@[simp] theorem qGJ:ZE M (.tup xs)=some (xs,[]):=rfl
@[simp] theorem qG3:ZE M (.fz xs)=some (xs,[]):=rfl
@[simp] theorem qGR:qAi M (.lst xs)=some (xs,[]):=rfl
end
@[simp] theorem lk0{α:Type}(x0:α)(l:List α):(x0::l)[0]?=some x0:=rfl
@[simp] theorem st0{α:Type}(x0 y:α)(l:List α):(x0::l).set 0 y=y::l:=rfl
@[simp] theorem lk1{α:Type}(x0 x1:α)(l:List α):(x0::x1::l)[1]?=some x1:=rfl
@[simp] theorem st1{α:Type}(x0 x1 y:α)(l:List α):(x0::x1::l).set 1 y=x0::y::l:=rfl
@[simp] theorem lk2{α:Type}(x0 x1 x2:α)(l:List α):(x0::x1::x2::l)[2]?=some x2:=rfl
@[simp] theorem st2{α:Type}(x0 x1 x2 y:α)(l:List α):(x0::x1::x2::l).set 2 y=x0::x1::y::l:=rfl
@[simp] theorem lk3{α:Type}(x0 x1 x2 x3:α)(l:List α):(x0::x1::x2::x3::l)[3]?=some x3:=rfl
@[simp] theorem st3{α:Type}(x0 x1 x2 x3 y:α)(l:List α):(x0::x1::x2::x3::l).set 3 y=x0::x1::x2::y::l:=rfl
@[simp] theorem lk4{α:Type}(x0 x1 x2 x3 x4:α)(l:List α):(x0::x1::x2::x3::x4::l)[4]?=some x4:=rfl
@[simp] theorem st4{α:Type}(x0 x1 x2 x3 x4 y:α)(l:List α):(x0::x1::x2::x3::x4::l).set 4 y=x0::x1::x2::x3::y::l:=rfl
@[simp] theorem lk5{α:Type}(x0 x1 x2 x3 x4 x5:α)(l:List α):(x0::x1::x2::x3::x4::x5::l)[5]?=some x5:=rfl
@[simp] theorem st5{α:Type}(x0 x1 x2 x3 x4 x5 y:α)(l:List α):(x0::x1::x2::x3::x4::x5::l).set 5 y=x0::x1::x2::x3::x4::y::l:=rfl
@[simp] theorem lk6{α:Type}(x0 x1 x2 x3 x4 x5 x6:α)(l:List α):(x0::x1::x2::x3::x4::x5::x6::l)[6]?=some x6:=rfl
@[simp] theorem st6{α:Type}(x0 x1 x2 x3 x4 x5 x6 y:α)(l:List α):(x0::x1::x2::x3::x4::x5::x6::l).set 6 y=x0::x1::x2::x3::x4::x5::y::l:=rfl
@[simp] theorem lk7{α:Type}(x0 x1 x2 x3 x4 x5 x6 x7:α)(l:List α):(x0::x1::x2::x3::x4::x5::x6::x7::l)[7]?=some x7:=rfl
@[simp] theorem st7{α:Type}(x0 x1 x2 x3 x4 x5 x6 x7 y:α)(l:List α):(x0::x1::x2::x3::x4::x5::x6::x7::l).set 7 y=x0::x1::x2::x3::x4::x5::x6::y::l:=rfl
@[simp] theorem lk8{α:Type}(x0 x1 x2 x3 x4 x5 x6 x7 x8:α)(l:List α):(x0::x1::x2::x3::x4::x5::x6::x7::x8::l)[8]?=some x8:=rfl
@[simp] theorem st8{α:Type}(x0 x1 x2 x3 x4 x5 x6 x7 x8 y:α)(l:List α):(x0::x1::x2::x3::x4::x5::x6::x7::x8::l).set 8 y=x0::x1::x2::x3::x4::x5::x6::x7::y::l:=rfl
@[simp] theorem lk9{α:Type}(x0 x1 x2 x3 x4 x5 x6 x7 x8 x9:α)(l:List α):(x0::x1::x2::x3::x4::x5::x6::x7::x8::x9::l)[9]?=some x9:=rfl
@[simp] theorem st9{α:Type}(x0 x1 x2 x3 x4 x5 x6 x7 x8 x9 y:α)(l:List α):(x0::x1::x2::x3::x4::x5::x6::x7::x8::x9::l).set 9 y=x0::x1::x2::x3::x4::x5::x6::x7::x8::y::l:=rfl
@[simp] theorem qII{α:Type}(x0 x1 x2 x3 x4 x5 x6 x7 x8 x9 x10:α)(l:List α):(x0::x1::x2::x3::x4::x5::x6::x7::x8::x9::x10::l)[10]?=some x10:=rfl
@[simp] theorem qIN{α:Type}(x0 x1 x2 x3 x4 x5 x6 x7 x8 x9 x10 y:α)(l:List α):(x0::x1::x2::x3::x4::x5::x6::x7::x8::x9::x10::l).set 10 y=x0::x1::x2::x3::x4::x5::x6::x7::x8::x9::y::l:=rfl
@[simp] theorem qIX{α:Type}(x0 x1 x2 x3 x4 x5 x6 x7 x8 x9 x10 x11:α)(l:List α):(x0::x1::x2::x3::x4::x5::x6::x7::x8::x9::x10::x11::l)[11]?=some x11:=rfl
@[simp] theorem qIH{α:Type}(x0 x1 x2 x3 x4 x5 x6 x7 x8 x9 x10 x11 y:α)(l:List α):(x0::x1::x2::x3::x4::x5::x6::x7::x8::x9::x10::x11::l).set 11 y=x0::x1::x2::x3::x4::x5::x6::x7::x8::x9::x10::y::l:=rfl
@[simp] theorem qIV{α:Type}(x0 x1 x2 x3 x4 x5 x6 x7 x8 x9 x10 x11 x12:α)(l:List α):(x0::x1::x2::x3::x4::x5::x6::x7::x8::x9::x10::x11::x12::l)[12]?=some x12:=rfl
@[simp] theorem qIU{α:Type}(x0 x1 x2 x3 x4 x5 x6 x7 x8 x9 x10 x11 x12 y:α)(l:List α):(x0::x1::x2::x3::x4::x5::x6::x7::x8::x9::x10::x11::x12::l).set 12 y=x0::x1::x2::x3::x4::x5::x6::x7::x8::x9::x10::x11::y::l:=rfl
@[simp] theorem qIF{α:Type}(x0 x1 x2 x3 x4 x5 x6 x7 x8 x9 x10 x11 x12 x13:α)(l:List α):(x0::x1::x2::x3::x4::x5::x6::x7::x8::x9::x10::x11::x12::x13::l)[13]?=some x13:=rfl
@[simp] theorem qIE{α:Type}(x0 x1 x2 x3 x4 x5 x6 x7 x8 x9 x10 x11 x12 x13 y:α)(l:List α):(x0::x1::x2::x3::x4::x5::x6::x7::x8::x9::x10::x11::x12::x13::l).set 13 y=x0::x1::x2::x3::x4::x5::x6::x7::x8::x9::x10::x11::x12::y::l:=rfl
@[simp] theorem qIS{α:Type}(x0 x1 x2 x3 x4 x5 x6 x7 x8 x9 x10 x11 x12 x13 x14:α)(l:List α):(x0::x1::x2::x3::x4::x5::x6::x7::x8::x9::x10::x11::x12::x13::x14::l)[14]?=some x14:=rfl
@[simp] theorem qIL{α:Type}(x0 x1 x2 x3 x4 x5 x6 x7 x8 x9 x10 x11 x12 x13 x14 y:α)(l:List α):(x0::x1::x2::x3::x4::x5::x6::x7::x8::x9::x10::x11::x12::x13::x14::l).set 14 y=x0::x1::x2::x3::x4::x5::x6::x7::x8::x9::x10::x11::x12::x13::y::l:=rfl
@[simp] theorem qIC{α:Type}(x0 x1 x2 x3 x4 x5 x6 x7 x8 x9 x10 x11 x12 x13 x14 x15:α)(l:List α):(x0::x1::x2::x3::x4::x5::x6::x7::x8::x9::x10::x11::x12::x13::x14::x15::l)[15]?=some x15:=rfl
@[simp] theorem qID{α:Type}(x0 x1 x2 x3 x4 x5 x6 x7 x8 x9 x10 x11 x12 x13 x14 x15 y:α)(l:List α):(x0::x1::x2::x3::x4::x5::x6::x7::x8::x9::x10::x11::x12::x13::x14::x15::l).set 15 y=x0::x1::x2::x3::x4::x5::x6::x7::x8::x9::x10::x11::x12::x13::x14::y::l:=rfl
theorem qN{gl:List T}{tb:List Fn}{Cs:List (List Nat)}{k f:Nat}{vs:List T}{M:Mem}{np ns:Nat}{b:Ss}(ht:tb[f]?=some ⟨np,ns,b⟩)(hl:vs.length=np/\np<=ns)(hk:1<=k)(ho:ZZ b=false:=by rfl):
  Pk gl tb Cs k f vs M=Zz M.length (pxs gl (Pk gl tb Cs (k-1)) (Cs.getD f []) b (vs.map some++List.replicate (ns-np) none) M):=by
 obtain⟨k,rfl⟩:∃j,k=j+1:=⟨k-1,by omega⟩
 rw[Pk,ht];dsimp only;rw[ho,if_neg (by decide),if_pos hl];rfl
theorem qB{M M1:Mem}{t:TB}(h:M1.length=M.length):Zz M.length (.ok (.rt t,M1))=.ok (t,M1):=by
 show finish M.length t M1=_;unfold finish;rw[if_pos h]
theorem C6{M M1:Mem}{σ:TS}(h:M1.length=M.length):Zz M.length (.ok (.nx σ,M1))=.ok ((.v .non,true),M1):=by
 show finish M.length _ M1=_;unfold finish;rw[if_pos h]
noncomputable def N(n:Nat):T:=.v (.int (n:Int))
noncomputable def NL(L:List Nat):T:=.lst (L.map N)
theorem qBx(n:Nat):jQ 0 n=(List.range n).map N:=by
 unfold jQ N;simp
theorem m9(L:List Nat):T.lfs (L.map N)=true:=by
 induction L with
 |nil=>rfl
 |cons x L ih=>rw[List.map_cons,Zv,ih];rfl
theorem qH4(n:Nat):(N n).lf=true:=by unfold N;rfl
theorem jl:∀L:List Nat,zX (L.map N)=some (L.map λ(n:Nat)=>V.int (n:Int))
 | []=>rfl
 |x::L=>by
  show (zX (L.map N)).map _=_;rw[jl L];rfl
theorem qHo{M:Mem}(n:Nat)(L:List Nat):zB M .inn (N n) (NL L)=some (decide (n∈L)):=by
 show ((zX (L.map N)).map λxs=>xs.any λz=>_L.eqV z (.int (n:Int)))=_;rw[jl,Option.map_some,List.any_map];congr 1;rw[wl];simp only[wu,Function.comp,uJ];constructor
 ·rintro⟨x,hx,e⟩;have:x=n:=by
   have e':((x:Int)==(n:Int))=true:=e;rw[beq_iff_eq]at e';omega
  rwa [<-this]
 ·intro h;refine⟨n,h,?_⟩;show ((n:Int)==(n:Int))=true;rw[uM]
theorem qBv{M:Mem}(n:Nat)(L:List Nat):zB M .notin (N n) (NL L)=some (!decide (n∈L)):=by
 have:=qHo (M:=M) n L;show (inT M (N n) (NL L)).map (!·)=_;rw[show inT M (N n) (NL L)=some (decide (n∈L)) from this];rfl
theorem J6{M:Mem}{d:Nat}:∀(L K:List Nat),L.length=K.length->qt (eqT M d) (L.map N) (K.map N)=some (List.zipWith (λ(a b:Nat)=>decide (a=b)) L K)
 | [],[],_=>rfl
 | [],_::_,h=>by simp at h
 |_::_,[],h=>by simp at h
 |a::L,b::K,h=>by
  have e:eqT M d (N a) (N b)=some (decide (a=b)):=by
   have:eqF (.int (a:Int)) (.int (b:Int))=some (decide (a=b)):=by
    show some ((a:Int)==(b:Int))=_;congr 1;rw[wl,beq_iff_eq,uJ];omega
   cases d<;>(unfold eqT;exact this)
  rw[List.map_cons,List.map_cons,qt,e,J6 L K (by simpa using h)];rfl
theorem Z8:∀(L K:List Nat),L.length=K.length->((List.zipWith (λ(a b:Nat)=>decide (a=b)) L K).all id=decide (L=K))
 | [],[],_=>rfl
 | [],_::_,h=>by simp at h
 |_::_,[],h=>by simp at h
 |a::L,b::K,h=>by
  rw[List.zipWith_cons_cons,List.all_cons,Z8 L K (by simpa using h)];by_cases h1:a=b<;>by_cases h2:L=K<;>simp[h1,h2]
theorem qAh{M:Mem}{d:Nat}(L K:List Nat):eqT M (d+1) (NL L) (NL K)=some (decide (L=K)):=by
 unfold eqT;show (if (L.map N).length=(K.map N).length then (qt (eqT M d) (L.map N) (K.map N)).map (λbs=>bs.all id) else some false)=_;rw[wK,wK];by_cases h:L.length=K.length
 ·rw[if_pos h,J6 L K h,Option.map_some,Z8 L K h]
 ·rw[if_neg h];congr 1;symm;exact uH (λe=>h (by rw[e]))
theorem qEs{M:Mem}{L K:List Nat}(h:L.length+K.length<=lim):qg M .add (NL L) (NL K)=some (NL (L++K),true):=by
 unfold NL;rw[J0 (by simpa using h)];show some (T.lst (L.map N++K.map N),T.lfs (L.map N++K.map N))=_;rw[<-wk,m9]
@[simp] theorem qC8{d:QK}{g:Tg}{b:TS->Mem->RSt}{σ:TS}{M:Mem}:zJ d g b [] σ M=.ok (.nx σ,M):=rfl
@[simp] theorem jO{i:Nat}{b:TS->Mem->RSt}{x:T}{r:List T}{σ:TS}{M:Mem}:zJ [] (.name i) b (x::r) σ M=(b (σ.set i (some x)) M).bind λp=>match p.1 with
   | .nx σ2=>zJ [] (.name i) b r σ2 p.2
   | .ct σ2=>zJ [] (.name i) b r σ2 p.2
   | .bk σ2=>.ok (.nx σ2,p.2)
   | .rt t=>.ok (.rt t,p.2):=rfl
theorem d9{c:TS->Mem->PR (Bool×Mem)}{e:TS->Mem->PR (TB×Mem)}{M:Mem}{σ:TS}(p:Nat->Bool)(f:Nat->T)(fr:Nat->Bool):∀(its:List Nat) (ys:List T) (b:Bool) (o:Option T),ys.length+its.length<=lim ->
  (∀x∈its,c (some (N x)::σ) M=.ok (p x,M))->(∀x∈its,p x=true->e (some (N x)::σ) M=.ok ((f x,fr x),M)) ->
  qP [] (.name 0) c e (its.map N) ys b (o::σ) M=.ok ((.lst (ys++(its.filter p).map f),b&&(its.filter p).all fr),M)
 | [],ys,b,o,hl,hc,he=>by simp[qP]
 |x::r,ys,b,o,hl,hc,he=>by
  rw[List.map_cons];unfold qP;rw[show zN (.name 0) (N x) (o::σ)=some (some (N x)::σ) from rfl];dsimp only;rw[hc x (wU ..)];rw[tD];dsimp only;cases hp:p x with
  |true=>
   rw[if_pos rfl,he x (wU ..) hp,tD];dsimp only;rw[if_pos ⟨by simp at hl;omega,rfl⟩];rw[d9 p f fr r (ys++[f x]) (b&&fr x) (some (N x)) (by simp at hl ⊢;omega) (λy hy=>hc y (wL _ hy)) (λy hy=>he y (wL _ hy))];rw[vP hp];simp[vo]
  |false=>
   rw[if_neg (by decide),if_pos (show qe [] M=true from rfl)];rw[d9 p f fr r ys b (some (N x)) (by simp at hl ⊢;omega) (λy hy=>hc y (wL _ hy)) (λy hy=>he y (wL _ hy))];rw[vj (by rw[hp];decide)]
theorem zq{c:TS->Mem->PR (Bool×Mem)}{e:TS->Mem->PR (TB×Mem)}{M:Mem}{σ:TS}{o:Option T}{its:List Nat}(p:Nat->Bool)(g:Nat->Nat)(hl:its.length<=lim)
  (hc:∀x∈its,c (some (N x)::σ) M=.ok (p x,M)) (he:∀x∈its,p x=true->e (some (N x)::σ) M=.ok ((N (g x),true),M)):
  qP [] (.name 0) c e (its.map N) [] true (o::σ) M=.ok ((NL ((its.filter p).map g),true),M):=by
 rw[d9 p (λx=>N (g x)) (λ_=>true) its [] true o (by simpa using hl) hc he];unfold NL;simp
 all_goals rfl
@[simp] theorem Qs{M:Mem}(a b:Nat):qg M .add (N a) (N b)=some (N (a+b),true):=by unfold N;simp[iT]
theorem y8(L:List Nat):T.lf (NL L)=false:=by unfold NL;simp
noncomputable def nE(n:Nat):E:=.cst (.int (n:Int))
@[simp] theorem qHX{gl:List T}{P:Nat->List T->Mem->PR (TB×Mem)}{σ:TS}{M:Mem}(n:Nat):pe gl P (nE n) σ M=.ok ((N n,true),M):=by unfold nE;rw[pe_int];rfl
section
variable{M:Mem}(a b:Nat) (xs:List T)
@[simp] theorem lfN:(N a).lf=true:=qH4 a
@[simp] theorem qHv:(N a).isV=some (.int (a:Int)):=rfl
@[simp] theorem qIR:jA M (N a)=some "int":=rfl
@[simp] theorem qHF(L:List Nat):jA M (NL L)=some "list":=rfl
theorem QT{a b:Nat}(h:b<=a):qg M .sub (N a) (N b)=some (N (a-b),true):=by
 unfold N;rw[qDm];unfold iT;rw[Int.ofNat_sub h]
theorem Jd{a b:Nat}(h:a<18446744073709551616\/b<18446744073709551616):qg M .mul (N a) (N b)=some (N (a*b),true):=by
 unfold N;rw[qEP (by omega)];unfold iT;simp
theorem Jt{a b:Nat}(h:0<b/\b<1073741824):qg M .fdiv (N a) (N b)=some (N (a / b),true):=by
 unfold N;rw[qBS (by omega)];unfold iT;simp
theorem jm{a b:Nat}(h:0<b):qg M .mod (N a) (N b)=some (N (a % b),true):=by
 unfold N;rw[qAV (by omega)];unfold iT;simp
theorem qDQ{a b:Nat}(h:b<=1000/\a<1000000):qg M .pow (N a) (N b)=some (N (a ^ b),true):=by
 unfold N;rw[qAj (by omega)];unfold iT;simp
theorem Jk{a b:Nat}(h:b<=1000/\a<1000000):qg M .shl (N a) (N b)=some (N (a*2 ^ b),true):=by
 unfold N;rw[qDK (by omega)];unfold iT;simp
@[simp] theorem qES:zB M .lt (N a) (N b)=some (decide (a<b)):=by unfold N;rw[qFT];simp
@[simp] theorem qHY:zB M .le (N a) (N b)=some (decide (a<=b)):=by unfold N;rw[qE0];simp
@[simp] theorem qHW:zB M .gt (N a) (N b)=some (decide (b<a)):=by unfold N;rw[qFq];simp
@[simp] theorem qFr:zB M .ge (N a) (N b)=some (decide (b<=a)):=by unfold N;rw[qFl];simp
@[simp] theorem qCX:zB M .eq (N a) (N b)=some (decide (a=b)):=by unfold N;rw[qFv];congr 1;rw[wl,uJ,uJ];omega
@[simp] theorem qH2:zB M .ne (N a) (N b)=some (!decide (a=b)):=by
 show ((eqT M 4 (N a) (N b)).map (!·))=_;rw[show eqT M 4 (N a) (N b)=some (decide (a=b)) from qCX (M:=M) a b];rfl
@[simp] theorem QC:zP M (.lst xs) (N a)=(xs[a]?).map λt=>(t,t.lf):=by
 show ((_L.ixN xs.length (a:Int)).bind λj=>(xs[j]?).map λt=>(t,t.lf))=_;unfold _L.ixN;rw[if_pos (by omega)];split
 ·simp
 ·rw[vK (by omega)];rfl
@[simp] theorem zK:zP M (.tup xs) (N a)=(xs[a]?).map λt=>(t,t.lf):=by
 show ((_L.ixN xs.length (a:Int)).bind λj=>(xs[j]?).map λt=>(t,t.lf))=_;unfold _L.ixN;rw[if_pos (by omega)];split
 ·simp
 ·rw[vK (by omega)];rfl
@[simp] theorem qAr:jS M .len [.lst xs]=some (N xs.length,true):=rfl
@[simp] theorem qD1:jS M .len [.tup xs]=some (N xs.length,true):=rfl
@[simp] theorem qGm:jS M .len [.fz xs]=some (N xs.length,true):=rfl
@[simp] theorem qEE(L:List Nat):jS M .len [NL L]=some (N L.length,true):=by unfold NL;rw[qAr,wK]
@[simp] theorem qGj:jS M .max [N a,N b]=some (N (max a b),true):=by
 unfold N;rw[qDl];unfold iT;congr 4;split<;>omega
@[simp] theorem qG4:jS M .min [N a,N b]=some (N (min a b),true):=by
 unfold N;rw[qCy];unfold iT;congr 4;split<;>omega
@[simp] theorem qG9:jS M .int [N a]=some (N a,true):=rfl
@[simp] theorem qGb(t:Bool):jS M .int [.v (.bl t)]=some (N t.toNat,true):=by cases t<;>rfl
@[simp] theorem qG1:jS M .bits [N a]=some (N (PySem.Builtin.Int.intBits (a:Int)),true):=rfl
theorem Qv:qg M .band (N a) (N b)=some (N (a&&& b),true):=by
 unfold N;rw[qBr];unfold iT;rfl
end
theorem zb{n:Nat}(hn:n<=1000000):qCk (N n)=some ((List.range n).map N):=by
 show (if -1000000<=(n:Int)/\(n:Int)<=1000000 then some (jQ 0 (n:Int).toNat) else none)=_;rw[if_pos (by omega),vk,qBx]
theorem qAw{M:Mem}{n j:Nat}{xs:List T}{x:T}(h:M[n]?=some xs)(hj:j<xs.length):qCl M (.cell n) (N j) x=some (M.set n (xs.set j x)):=by
 show ((M[n]?).bind λxs=>(_L.ixN xs.length (j:Int)).map λj=>M.set n (xs.set j x))=_;rw[h];show (_L.ixN xs.length (j:Int)).map _=_;unfold _L.ixN;rw[if_pos (by omega),if_pos (by omega)];simp
theorem qED{M:Mem}{n:Nat}{xs:List T}{x:T}(h:M[n]?=some xs)(hl:xs.length<lim):qEa M n x=some (M.set n (xs++[x])):=by
 unfold qEa;rw[h];show (if xs.length<lim then _ else _)=_;rw[if_pos hl]
@[simp] theorem qER(n a:Nat):thaw n (N a)=(N a,[]):=by unfold N;simp[thaw]
@[simp] theorem qGg{M:Mem}(L:List Nat):ZE M (NL L)=some (L.map N,[]):=rfl
@[simp] theorem qGk{M:Mem}(x f:Bool):pB (PR.ok ((T.v (V.bl x),f),M))=.ok (x,M):=Eq.trans rfl rfl
theorem qm{α:Type}:∀l:List α,l.filter (λ_=>true)=l
 | []=>rfl
 |x::l=>by rw[vP rfl,qm l]
theorem qCM{gl:List T}{P:Nat->List T->Mem->PR (TB×Mem)}{e:TS->Mem->PR (TB×Mem)}{M:Mem}{σ:TS}{o:Option T}{its:List Nat}(g:Nat->Nat)(hl:its.length<=lim)
  (he:∀x∈its,e (some (N x)::σ) M=.ok ((N (g x),true),M)):qP [] (.name 0) (pec gl P .nil) e (its.map N) [] true (o::σ) M=.ok ((NL (its.map g),true),M):=
 (zq (λ_=>true) g hl (λx _=>by simp) (λx hx _=>he x hx)).trans (by rw[qm])
@[simp] theorem qBW{M:Mem}{n j:Nat}{x:T}:qCl M (.cell n) (N j) x=(M[n]?).bind λxs=>if j<xs.length then some (M.set n (xs.set j x)) else none:=by
 show ((M[n]?).bind λxs=>(_L.ixN xs.length (j:Int)).map λj=>M.set n (xs.set j x))=_;congr 1
 funext xs
 unfold _L.ixN;rw[if_pos (by omega)];by_cases h:j<xs.length
 ·rw[if_pos (by omega),if_pos h];simp
 ·rw[if_neg (by omega),if_neg h];rfl
@[simp] theorem qDz{M:Mem}{n a:Nat}:zP M (.cell n) (N a)=(M[n]?).bind λxs=>(xs[a]?).map λt=>(t,t.lf):=by
 show ((M[n]?).bind λxs=>(_L.ixN xs.length (a:Int)).bind λj=>(xs[j]?).map λt=>(t,t.lf))=_;congr 1
 funext xs
 exact QC (M:=M) a xs
@[simp] theorem qF7(a:Nat):qGa (N a)=some (iT (-(a:Int))):=rfl
@[simp] theorem qF6(a:Int):qGa (.v (.int a))=some (iT (-a)):=rfl
@[simp] theorem qHr(a:Nat):qk [N a]=some [(a:Int)]:=rfl
@[simp] theorem qHU:qk []=some []:=rfl
@[simp] theorem qHl{M:Mem}(xs:List T):T.its M (.lst xs)=some xs:=rfl
@[simp] theorem qHN{M:Mem}(xs:List T):T.its M (.fz xs)=some xs:=rfl
@[simp] theorem qHa{M:Mem}(xs:List T):T.its M (.tup xs)=some xs:=rfl
@[simp] theorem qHQ{M:Mem}(L:List Nat):T.its M (NL L)=some (L.map N):=rfl
@[simp] theorem qGy(ys xs:List T)(lo hi:Option Int):qA8 (.lst ys) xs lo hi=some (lT (JF xs lo hi)):=rfl
@[simp] theorem qGH(ys xs:List T)(lo hi:Option Int):qA8 (.fz ys) xs lo hi=some (lT (JF xs lo hi)):=rfl
@[simp] theorem qF5(L:List Nat)(xs:List T)(lo hi:Option Int):qA8 (NL L) xs lo hi=some (lT (JF xs lo hi)):=rfl
@[simp] theorem qGl(n:Nat)(xs:List T)(lo hi:Option Int):qA8 (.cell n) xs lo hi=some (lT (JF xs lo hi)):=rfl
@[simp] theorem qEy{M:Mem}(xs:List T):T.lis M (.lst xs)=some xs:=rfl
@[simp] theorem qHx{M:Mem}(xs:List T):T.lis M (.fz xs)=some xs:=rfl
@[simp] theorem qHn{M:Mem}(L:List Nat):T.lis M (NL L)=some (L.map N):=rfl
theorem Ju{c:TS->Mem->PR (Bool×Mem)}{e:TS->Mem->PR (TB×Mem)}{σ:TS}{I:Mem->Prop}{R:Nat->Bool->Prop}:∀(its ys:List Nat) (b:Bool) (o:Option T) (M:Mem),its.Nodup->ys.length+its.length<=lim->I M ->
  (∀x∈its,∀M,I M->∃t M',c (some (N x)::σ) M=.ok (t,M')/\I M'/\R x t)->(∀x∈its,∀M,I M->e (some (N x)::σ) M=.ok ((N x,true),M)) ->
  ∃q M',qP [] (.name 0) c e (its.map N) (ys.map N) b (o::σ) M=.ok ((NL (ys++its.filter q),b),M')/\I M'/\∀x∈its,R x (q x)
 | [],ys,b,o,M,nd,hl,hI,hc,he=>⟨λ_=>true,M,by simp[qP,NL],hI,λx hx=>by simp at hx⟩
 |x::r,ys,b,o,M,nd,hl,hI,hc,he=>by
  have ndr:=(wf.mp nd).2;have hx:=(wf.mp nd).1;obtain⟨t,M1,e1,i1,r1⟩:=hc x (wU ..) M hI;rw[List.map_cons];unfold qP;rw[show zN (.name 0) (N x) (o::σ)=some (some (N x)::σ) from rfl];dsimp only;rw[e1,tD];dsimp only;have key:∀(q:Nat->Bool),(∀y∈r,R y (q y))->(r.filter (λy=>if y=x then t else q y)=r.filter q)/\∀y∈x::r,R y (if y=x then t else q y):=λq hq=>by
   constructor
   ·apply List.filter_congr;intro y hy;rw[if_neg (by rintro rfl;exact hx hy)]
   ·intro y hy;rcases wJ.mp hy with h1|h1
    ·rw[if_pos h1,h1];exact r1
    ·rw[if_neg (by rintro rfl;exact hx h1)];exact hq y h1
  cases t with
  |true=>
   rw[if_pos rfl,he x (wU ..) M1 i1,tD];dsimp only;rw[if_pos ⟨by simp at hl ⊢;omega,rfl⟩];obtain⟨q,M2,e2,i2,r2⟩:=Ju (I:=I) (R:=R) r (ys++[x]) b (some (N x)) M1 ndr (by simp at hl ⊢;omega) i1 (λy hy=>hc y (wL _ hy)) (λy hy=>he y (wL _ hy));obtain⟨k1,k2⟩:=key q r2;refine⟨λy=>if y=x then true else q y,M2,?_,i2,k2⟩;rw[show ys.map N++[N x]=(ys++[x]).map N by simp,vM,e2,vP (by simp),k1];simp
  |false=>
   rw[if_neg (by decide),if_pos (show qe [] M1=true from rfl)];obtain⟨q,M2,e2,i2,r2⟩:=Ju (I:=I) (R:=R) r ys b (some (N x)) M1 ndr (by simp at hl ⊢;omega) i1 (λy hy=>hc y (wL _ hy)) (λy hy=>he y (wL _ hy));obtain⟨k1,k2⟩:=key q r2;refine⟨λy=>if y=x then false else q y,M2,?_,i2,k2⟩;rw[e2,vj (by simp),k1]
@[simp] theorem qEZ(i j:Nat)(a b:T)(σ:TS):zN (.tup [i,j]) (.tup [a,b]) σ=some ((σ.set i (some a)).set j (some b)):=rfl
@[simp] theorem ZC(σ:TS):jG [] σ=[]:=rfl
@[simp] theorem Qo(r:List (Option Nat))(σ:TS):jG (none::r) σ=none::jG r σ:=rfl
@[simp] theorem Qc(j:Nat)(r:List (Option Nat))(σ:TS):jG (some j::r) σ=(σ[j]?).join::jG r σ:=rfl
theorem d7(x:V)(f:Bool)(M1:Mem):∃b M2,Zz ([]:Mem).length (.ok (.rt (.v x,f),M1))=.ok ((.v x,b),M2):=by
 show ∃b M2,finish 0 (.v x,f) M1=_;unfold finish;by_cases h:M1.length=0
 ·rw[if_pos h];exact⟨f,M1,rfl⟩
 ·rw[if_neg h,if_pos (by simp)];rw[show qR M1 0 6 (T.v x)=some (.v x) by unfold qR;rw[if_pos (by unfold T.und;rfl)]];exact⟨_,_,rfl⟩
mutual
theorem y4:∀t:T,T.beq t t=true
 | .v x=>by unfold T.beq;simp
 | .cell x=>by unfold T.beq;simp
 | .ob x=>by unfold T.beq;simp
 | .dt ks xs=>by unfold T.beq;rw[zn xs];simp
 | .fz xs=>by unfold T.beq;exact zn xs
 | .lst xs=>by unfold T.beq;exact zn xs
 | .tup xs=>by unfold T.beq;exact zn xs
theorem zn:∀ts:List T,T.beqs ts ts=true
 | []=>rfl
 |t::ts=>by unfold T.beqs;rw[y4 t,zn ts];rfl
end
mutual
theorem u4{a b:Nat}(h:a<=b):∀t:T,t.und a=true->t.und b=true
 | .v x,_=>rfl
 | .cell k,e=>by unfold T.und at e ⊢;simp at e ⊢;omega
 | .ob x,_=>rfl
 | .dt _ xs,e=>by unfold T.und at e ⊢;exact zW h xs e
 | .fz xs,e=>by unfold T.und at e ⊢;exact zW h xs e
 | .lst xs,e=>by unfold T.und at e ⊢;exact zW h xs e
 | .tup xs,e=>by unfold T.und at e ⊢;exact zW h xs e
theorem zW{a b:Nat}(h:a<=b):∀ts:List T,T.unds a ts=true->T.unds b ts=true
 | [],_=>rfl
 |t::ts,e=>by unfold T.unds at e ⊢;rw[wE]at e;rw[u4 h t e.1,zW h ts e.2];rfl
end
def FlatM(M:Mem):Prop:=∀c∈M,T.unds 0 c=true
theorem FlatM.all{M:Mem}(h:FlatM M)(n:Nat):M.all (T.unds n)=true:=by
 rw[List.all_eq_true];exact λc hc=>zW (vU _) c (h c hc)
theorem FlatM.app{A B:Mem}(h:FlatM A)(k:FlatM B):FlatM (A++B):=λc hc=>by
 rcases wF.mp hc with z|z
 ·exact h c z
 ·exact k c z
theorem Zd{d:QK}{c:TS->Mem->PR (Bool×Mem)}{e:TS->Mem->PR (TB×Mem)}{M:Mem}{σ:TS}(p:Nat->Bool)(f:Nat->T)(fr:Nat->Bool):∀(its:List Nat) (ys:List T) (b:Bool) (o:Option T),qe d M=true->ys.length+its.length<=lim ->
  (∀x∈its,c (some (N x)::σ) M=.ok (p x,M))->(∀x∈its,p x=true->e (some (N x)::σ) M=.ok ((f x,fr x),M)) ->
  qP d (.name 0) c e (its.map N) ys b (o::σ) M=.ok ((.lst (ys++(its.filter p).map f),b&&(its.filter p).all fr),M)
 | [],ys,b,o,hd,hl,hc,he=>by simp[qP]
 |x::r,ys,b,o,hd,hl,hc,he=>by
  rw[List.map_cons];unfold qP;rw[show zN (.name 0) (N x) (o::σ)=some (some (N x)::σ) from rfl];dsimp only;rw[hc x (wU ..)];rw[tD];dsimp only;cases hp:p x with
  |true=>
   rw[if_pos rfl,he x (wU ..) hp,tD];dsimp only;rw[if_pos ⟨by simp at hl;omega,hd⟩];rw[Zd p f fr r (ys++[f x]) (b&&fr x) (some (N x)) hd (by simp at hl ⊢;omega) (λy hy=>hc y (wL _ hy)) (λy hy=>he y (wL _ hy))];rw[vP hp];simp[vo]
  |false=>
   rw[if_neg (by decide),if_pos hd];rw[Zd p f fr r ys b (some (N x)) hd (by simp at hl ⊢;omega) (λy hy=>hc y (wL _ hy)) (λy hy=>he y (wL _ hy))];rw[vj (by rw[hp];decide)]
theorem F3{d:QK}{c:TS->Mem->PR (Bool×Mem)}{e:TS->Mem->PR (TB×Mem)}{M:Mem}{σ:TS}{o:Option T}{its:List Nat}(p:Nat->Bool)(g:Nat->Nat)(hd:qe d M=true)(hl:its.length<=lim)
  (hc:∀x∈its,c (some (N x)::σ) M=.ok (p x,M)) (he:∀x∈its,p x=true->e (some (N x)::σ) M=.ok ((N (g x),true),M)):
  qP d (.name 0) c e (its.map N) [] true (o::σ) M=.ok ((NL ((its.filter p).map g),true),M):=by
 rw[Zd p (λx=>N (g x)) (λ_=>true) its [] true o hd (by simpa using hl) hc he];unfold NL;simp
 all_goals rfl
theorem j8(n:Nat):∀L:List Nat,jw n (L.map N)=(L.map N,[])
 | []=>by simp[jw]
 |x::L=>by
  rw[List.map_cons,jw,qER];dsimp only;rw[List.length_nil,Nat.add_zero,j8 n L];rfl
@[simp] theorem S7(n:Nat)(L:List Nat):thaw n (NL L)=(.cell n,[L.map N]):=by
 unfold NL;rw[thaw,j8];rfl
theorem qBI{M:Mem}{n:Nat}{ts:List T}(h:M[n]?=some ts):qe [(n,ts)] M=true:=by
 unfold qe;simp[h,zn]
theorem G5{M:Mem}{n:Nat}{ts:List T}(h:M[n]?=some ts):ZE M (.cell n)=some (ts,[(n,ts)]):=by
 unfold ZE;dsimp only;rw[h];rfl
theorem qGo{M:Mem}{n:Nat}{ts:List T}(h:M[n]?=some ts):jA M (.cell n)=some "list":=by
 unfold jA;dsimp only;rw[h];rfl
structure IsL(M:Mem)(t:T)(L:List Nat):Prop where
 its:t.its M=some (L.map N)
 lis:t.lis M=some (L.map N)
 ty:jA M t=some "list"
 src:∃d,ZE M t=some (L.map N,d)/\qAi M t=some (L.map N,d)/\qe d M=true
 nv:t.isV=none
theorem IsL.nl(M:Mem)(L:List Nat):IsL M (NL L) L:=⟨rfl,rfl,rfl,⟨[],rfl,rfl,rfl⟩,rfl⟩
theorem IsL.cell{M:Mem}{n:Nat}{L:List Nat}(h:M[n]?=some (L.map N)):IsL M (.cell n) L:=⟨h,h,qGo h,⟨_,G5 h,G5 h,qBI h⟩,rfl⟩
section
variable{M:Mem}{t u:T}{L K:List Nat}
theorem IsL.len(h:IsL M t L):jS M .len [t]=some (N L.length,true):=by
 show ((t.its M).map _).or _=_;rw[h.its,Option.map_some,wK];rfl
theorem IsL.list(h:IsL M t L):jS M .list [t]=some (NL L,true):=by
 show (t.its M).map lT=_;rw[h.its,Option.map_some];show some (T.lst (L.map N),T.lfs (L.map N))=_;rw[m9];rfl
theorem qAT:∀L:List Nat,qk (L.map N)=some (L.map λ(n:Nat)=>(n:Int))
 | []=>rfl
 |x::L=>by
  show (qk (L.map N)).map _=_;rw[qAT L];rfl
theorem qBC:∀L:List Nat,jW (L.map N)=some (L.map λ(n:Nat)=>(n:Int))
 | []=>rfl
 |x::L=>by
  show (jW (L.map N)).map _=_;rw[qBC L];rfl
theorem J2:∀L:List Nat,(L.map λ(n:Nat)=>(n:Int)).sum=((L.sum:Nat):Int)
 | []=>rfl
 |x::L=>by rw[List.map_cons,List.sum_cons,J2 L,List.sum_cons];simp
theorem IsL.sum(h:IsL M t L):jS M .sum [t]=some (N L.sum,true):=by
 show (t.lis M).bind _=_;rw[h.lis,Option.bind_some,qBC,Option.map_some,J2];rfl
theorem IsL.idx(h:IsL M t L){i:Nat}{x:Nat}(e:L[i]?=some x):zP M t (N i)=some (N x,true):=by
 show ((t.its M).bind λxs=>(_L.ixN xs.length (i:Int)).bind λj=>(xs[j]?).map λt=>(t,t.lf))=_;rw[h.its,Option.bind_some];have:=QC (M:=M) i (L.map N);rw[show zP M (.lst (L.map N)) (N i)=((_L.ixN (L.map N).length (i:Int)).bind λj=>((L.map N)[j]?).map λt=>(t,t.lf)) from rfl]at this;rw[this,wg,e];simp
theorem IsL.eq(h:IsL M t L)(k:IsL M u K):eqT M 4 t u=some (decide (L=K)):=by
 have:=qAh (M:=M) (d:=3) L K;unfold eqT at this ⊢;rw[h.nv,k.nv,h.lis,k.lis];exact this
theorem IsL.ceq(h:IsL M t L)(k:IsL M u K):zB M .eq t u=some (decide (L=K)):=h.eq k
theorem IsL.cne(h:IsL M t L)(k:IsL M u K):zB M .ne t u=some (!decide (L=K)):=by
 show (eqT M 4 t u).map (!·)=_;rw[h.eq k];rfl
end
theorem R7{xs:List T}{m:Nat}(h:m<=xs.length):JF xs none (some (m:Int))=xs.take m:=by
 unfold JF;rw[_H.sIx_none,_H.sIx_nat,Nat.min_eq_left h,List.drop_zero,Nat.sub_zero]
theorem JT{xs:List T}{m:Nat}(h:m<=xs.length):JF xs (some (m:Int)) none=xs.drop m:=by
 unfold JF;rw[_H.sIx_none,_H.sIx_nat,Nat.min_eq_left h];exact List.take_of_length_le (by simp)
theorem Zs{gl:List T}{P:Nat->List T->Mem->PR (TB×Mem)}{e:TS->Mem->PR (TB×Mem)}{σ:TS}{I:Mem->Prop}{R:Nat->Prop}:∀(its ys:List Nat) (b:Bool) (o:Option T) (M:Mem),ys.length+its.length<=lim->I M ->
  (∀x∈its,∀M,I M->∃y M',e (some (N x)::σ) M=.ok ((N y,true),M')/\I M'/\R y) ->
  ∃K M',qP [] (.name 0) (pec gl P .nil) e (its.map N) (ys.map N) b (o::σ) M=.ok ((NL (ys++K),b),M')/\I M'/\K.length=its.length/\∀y∈K,R y
 | [],ys,b,o,M,hl,hI,he=>⟨[],M,by simp[qP,NL],hI,rfl,λy hy=>by simp at hy⟩
 |x::r,ys,b,o,M,hl,hI,he=>by
  obtain⟨y,M1,e1,i1,r1⟩:=he x (wU ..) M hI;rw[List.map_cons];unfold qP;rw[show zN (.name 0) (N x) (o::σ)=some (some (N x)::σ) from rfl];dsimp only;rw[zO,tD];dsimp only;rw[if_pos rfl,e1,tD];dsimp only;rw[if_pos ⟨by simp at hl ⊢;omega,rfl⟩];obtain⟨K,M2,e2,i2,l2,r2⟩:=Zs (gl:=gl) (P:=P) (I:=I) (R:=R) r (ys++[y]) b (some (N x)) M1 (by simp at hl ⊢;omega) i1 (λy hy=>he y (wL _ hy));refine⟨y::K,M2,?_,i2,by simp[l2],λz hz=>?_⟩
  ·rw[show ys.map N++[N y]=(ys++[y]).map N by simp,vM,e2];simp
  ·rcases wJ.mp hz with h1|h1
   ·rw[h1];exact r1
   ·exact r2 z h1
theorem R8{α:Type}(p:α->Bool):∀L:List α,zx (L.map λx=>T.v (.bl (p x)))=some (L.map p)
 | []=>rfl
 |x::L=>by
  show (zx (L.map λx=>T.v (.bl (p x)))).map _=_;rw[R8 p L];rfl
theorem qDp{M:Mem}{α:Type}(p:α->Bool)(L:List α):jS M .all [.lst (L.map λx=>T.v (.bl (p x)))]=some (bT (L.all p)):=by
 show (zx _).map _=_;rw[R8,Option.map_some,List.all_map];rfl
theorem u3:∀a,a<32->∀j,j<5->PySem.Builtin.bitXor ((a:Nat):Int) ((2 ^ j:Nat):Int)=((a ^^^ 2 ^ j:Nat):Int):=by decide +kernel
theorem L7{M:Mem}{a j:Nat}(ha:a<32)(hj:j<5):qg M .bxor (N a) (N (2 ^ j))=some (N (a ^^^ 2 ^ j),true):=by
 show some (iT (PySem.Builtin.bitXor ((a:Nat):Int) ((2 ^ j:Nat):Int)))=_;rw[u3 a ha j hj];rfl
theorem L4{M:Mem}:zB M .is (.v .non) (.v .non)=some true:=rfl
theorem qEk{M:Mem}(n:Nat):zB M .is (N n) (.v .non)=some false:=rfl
theorem getD_some{L:List Nat}{i:Nat}(h:i<L.length):L[i]?=some (L.getD i 0):=by
 rw[wY,wD h];rfl
def IsS(M:Mem)(t:T)(ts:List T):Prop:=t=.lst ts\/∃m,t=.cell m/\M[m]?=some ts
section
variable{M C:Mem}{t:T}{ts:List T}
theorem IsS.app(h:IsS M t ts):IsS (M++C) t ts:=by
 rcases h with h|⟨m,h,e⟩
 ·exact .inl h
 ·exact .inr ⟨m,h,by rw[wC (wB.mp e).1];exact e⟩
theorem IsS.its(h:IsS M t ts):t.its M=some ts:=by rcases h with rfl|⟨m,rfl,e⟩;rfl;exact e
theorem IsS.lis(h:IsS M t ts):t.lis M=some ts:=by rcases h with rfl|⟨m,rfl,e⟩;rfl;exact e
theorem IsS.ty(h:IsS M t ts):jA M t=some "list":=by rcases h with rfl|⟨m,rfl,e⟩;rfl;exact qGo e
theorem IsS.nv(h:IsS M t ts):t.isV=none:=by rcases h with rfl|⟨m,rfl,e⟩<;>rfl
theorem IsS.lf(h:IsS M t ts):t.lf=false:=by rcases h with rfl|⟨m,rfl,e⟩<;>simp
theorem IsS.src(h:IsS M t ts):∃d,ZE M t=some (ts,d)/\qAi M t=some (ts,d)/\∀C,qe d (M++C)=true:=by
 rcases h with rfl|⟨m,rfl,e⟩
 ·exact⟨[],rfl,rfl,λ_=>rfl⟩
 ·exact⟨_,G5 e,G5 e,λC=>qBI (by rw[wC (wB.mp e).1];exact e)⟩
theorem IsS.len(h:IsS M t ts):jS M .len [t]=some (N ts.length,true):=by
 show ((t.its M).map _).or _=_;rw[h.its,Option.map_some];rfl
theorem IsS.idx(h:IsS M t ts)(i:Nat):zP M t (N i)=(ts[i]?).map λt=>(t,t.lf):=by
 have a:zP M t (N i)=zP M (.lst ts) (N i):=by
  show (t.its M).bind _=_;rw[h.its];rfl
 rw[a,QC]
theorem IsS.list(h:IsS M t ts):jS M .list [t]=some (lT ts):=by
 show (t.its M).map lT=_;rw[h.its];rfl
theorem IsS.eqT{u:T}{us:List T}{d:Nat}{bs:List Bool}(h:IsS M t ts)(k:IsS M u us)(hl:ts.length=us.length)(e:qt (eqT M d) ts us=some bs):_P.eqT M (d+1) t u=some (bs.all id):=by
 unfold _P.eqT;rw[h.nv,k.nv,h.lis,k.lis];dsimp only;rw[if_pos hl,e];rfl
end
def WfM(M:Mem):Prop:=M.all (T.unds M.length)=true
theorem WfM.app{M C:Mem}(h:WfM M)(hC:∀c∈C,T.unds (M++C).length c=true):WfM (M++C):=by
 unfold WfM at *;rw[List.all_eq_true]at h ⊢;intro c hc;rcases wF.mp hc with z|z
 ·exact zW (by simp) c (h c z)
 ·exact hC c z
theorem qFt{ts:List T}(n:Nat)(h:T.lfs ts=true):T.unds n ts=true:=JE n ts h
theorem WfM.one{M:Mem}(h:WfM M){ts:List T}(l:T.lfs ts=true):WfM (M++[ts]):=h.app λc hc=>by rw[wP.mp hc];exact JE _ _ l
theorem QY{M:Mem}{n0 d:Nat}:∀ts:List T,T.lfs ts=true->ts.mapM (qR M n0 d)=some ts
 | [],_=>rfl
 |t::ts,h=>by
  rw[Zv,wE]at h;have e:qR M n0 d t=some t:=by cases d<;>(unfold qR;rw[if_pos (U9 n0 t h.1)])
  rw[vn,e,QY ts h.2];rfl
theorem G9{M:Mem}{n0 d:Nat}:∀ts:List T,T.lfs ts=true->ts.mapM (jP M n0 d)=some (ts.map λ_=>[])
 | [],_=>rfl
 |t::ts,h=>by
  rw[Zv,wE]at h;have e:jP M n0 d t=some []:=by cases d<;>(unfold jP;rw[if_pos h.1])
  rw[vn,e,G9 ts h.2];rfl
theorem O5(L:List T):(L.map λ_=>([]:List Nat)).flatten=[]:=by
 induction L with
 |nil=>rfl
 |cons x L ih=>rw[List.map_cons,List.flatten_cons,ih];rfl
theorem jy{M A C:Mem}{c:Nat}{ts:List T}(hA:A.length=M.length)(hW:WfM A)(hc:(A++C)[c]?=some ts)(hn:A.length<=c)(hl:T.lfs ts=true)(f:Bool):Zz M.length (.ok (.rt (.cell c,f),A++C))=.ok ((.lst ts,true),A):=by
 show finish M.length _ _=_;unfold finish;have hlt:=(wB.mp hc).1;rw[wV]at hlt;rw[<-hA,if_neg (by rw[wV];omega),List.take_left' rfl,if_pos (show A.all (T.unds A.length)=true from hW)];have r:qR (A++C) A.length 6 (.cell c)=some (.lst ts):=by
  unfold qR;rw[if_neg (by unfold T.und;simp;omega)];dsimp only;rw[hc,Option.bind_some,QY _ hl];rfl
 have i:frR (A++C) A.length (.cell c)=true:=by
  unfold frR;rw[show jP (A++C) A.length 6 (.cell c)=some [c] by
   unfold jP;rw[if_neg (by rw[qCL];decide)];dsimp only;rw[if_pos hn,hc,Option.bind_some,G9 _ hl,Option.map_some,O5];rfl]
  simp
 dsimp only;rw[r,PR.ofO_some,tD,i,Bool.or_true]
theorem X2{d:QK}{gl:List T}{P:Nat->List T->Mem->PR (TB×Mem)}{e:TS->Mem->PR (TB×Mem)}{σ:TS}{J:Mem->Prop}{Pr:T->T->Prop}:∀(its ys:List T) (b:Bool) (o:Option T) (M:Mem),ys.length+its.length<=lim->J M->(∀M',J M'->qe d M'=true) ->
  (∀x∈its,∀M',J M'->∃z M'',e (some x::σ) M'=.ok ((z,true),M'')/\J M''/\Pr x z) ->
  ∃zs M',qP d (.name 0) (pec gl P .nil) e its ys b (o::σ) M=.ok ((.lst (ys++zs),b),M')/\J M'/\jb Pr its zs
 | [],ys,b,o,M,_,hJ,_,_=>⟨[],M,by simp[qP],hJ,rfl⟩
 |x::r,ys,b,o,M,hl,hJ,hd,he=>by
  obtain⟨z,M1,e1,j1,p1⟩:=he x (by simp) M hJ;obtain⟨zs,M2,e2,j2,p2⟩:=X2 (d:=d) (gl:=gl) (P:=P) (σ:=σ) r (ys++[z]) b (some x) M1 (by simp at hl ⊢;omega) j1 hd λy hy=>he y (by simp[hy]);refine⟨z::zs,M2,?_,j2,⟨z,zs,rfl,p1,p2⟩⟩;rw[qP,show zN (.name 0) x (o::σ)=some (some x::σ) from rfl];dsimp only;rw[zO,tD];dsimp only;rw[if_pos rfl,e1,tD];dsimp only;rw[if_pos ⟨by simp at hl;omega,hd M1 j1⟩,vM,e2];simp
section
variable{gl:List T}{P:Nat->List T->Mem->PR (TB×Mem)}{M:Mem}{t:T}{l:TS}
@[simp high] theorem qHw:pe gl P (.var 0) (some t::l) M=.ok ((t,t.lf),M):=Eq.trans rfl rfl
@[simp high] theorem qIA{x0:Option T}:pe gl P (.var 1) (x0::some t::l) M=.ok ((t,t.lf),M):=Eq.trans rfl rfl
@[simp high] theorem qHi{x0 x1:Option T}:pe gl P (.var 2) (x0::x1::some t::l) M=.ok ((t,t.lf),M):=Eq.trans rfl rfl
@[simp high] theorem qH9{x0 x1 x2:Option T}:pe gl P (.var 3) (x0::x1::x2::some t::l) M=.ok ((t,t.lf),M):=Eq.trans rfl rfl
@[simp high] theorem qHE{x0 x1 x2 x3:Option T}:pe gl P (.var 4) (x0::x1::x2::x3::some t::l) M=.ok ((t,t.lf),M):=Eq.trans rfl rfl
@[simp high] theorem qHO{x0 x1 x2 x3 x4:Option T}:pe gl P (.var 5) (x0::x1::x2::x3::x4::some t::l) M=.ok ((t,t.lf),M):=Eq.trans rfl rfl
@[simp high] theorem qH7{x0 x1 x2 x3 x4 x5:Option T}:pe gl P (.var 6) (x0::x1::x2::x3::x4::x5::some t::l) M=.ok ((t,t.lf),M):=Eq.trans rfl rfl
@[simp high] theorem qHs{x0 x1 x2 x3 x4 x5 x6:Option T}:pe gl P (.var 7) (x0::x1::x2::x3::x4::x5::x6::some t::l) M=.ok ((t,t.lf),M):=Eq.trans rfl rfl
@[simp high] theorem qHu{x0 x1 x2 x3 x4 x5 x6 x7:Option T}:pe gl P (.var 8) (x0::x1::x2::x3::x4::x5::x6::x7::some t::l) M=.ok ((t,t.lf),M):=Eq.trans rfl rfl
@[simp high] theorem qG8{x0 x1 x2 x3 x4 x5 x6 x7 x8:Option T}:pe gl P (.var 9) (x0::x1::x2::x3::x4::x5::x6::x7::x8::some t::l) M=.ok ((t,t.lf),M):=Eq.trans rfl rfl
@[simp high] theorem qGP{x0 x1 x2 x3 x4 x5 x6 x7 x8 x9:Option T}:pe gl P (.var 10) (x0::x1::x2::x3::x4::x5::x6::x7::x8::x9::some t::l) M=.ok ((t,t.lf),M):=Eq.trans rfl rfl
@[simp high] theorem qGW{x0 x1 x2 x3 x4 x5 x6 x7 x8 x9 x10:Option T}:pe gl P (.var 11) (x0::x1::x2::x3::x4::x5::x6::x7::x8::x9::x10::some t::l) M=.ok ((t,t.lf),M):=Eq.trans rfl rfl
@[simp high] theorem qGU{x0 x1 x2 x3 x4 x5 x6 x7 x8 x9 x10 x11:Option T}:pe gl P (.var 12) (x0::x1::x2::x3::x4::x5::x6::x7::x8::x9::x10::x11::some t::l) M=.ok ((t,t.lf),M):=Eq.trans rfl rfl
@[simp high] theorem qGC{x0 x1 x2 x3 x4 x5 x6 x7 x8 x9 x10 x11 x12:Option T}:pe gl P (.var 13) (x0::x1::x2::x3::x4::x5::x6::x7::x8::x9::x10::x11::x12::some t::l) M=.ok ((t,t.lf),M):=Eq.trans rfl rfl
@[simp high] theorem qGe{y z:Option T}:(y::l:TS).set 0 z=z::l:=Eq.trans rfl rfl
@[simp high] theorem qG6{x0 y z:Option T}:(x0::y::l:TS).set 1 z=x0::z::l:=Eq.trans rfl rfl
@[simp high] theorem qG5{x0 x1 y z:Option T}:(x0::x1::y::l:TS).set 2 z=x0::x1::z::l:=Eq.trans rfl rfl
@[simp high] theorem qGN{x0 x1 x2 y z:Option T}:(x0::x1::x2::y::l:TS).set 3 z=x0::x1::x2::z::l:=Eq.trans rfl rfl
@[simp high] theorem qGs{x0 x1 x2 x3 y z:Option T}:(x0::x1::x2::x3::y::l:TS).set 4 z=x0::x1::x2::x3::z::l:=Eq.trans rfl rfl
@[simp high] theorem qGK{x0 x1 x2 x3 x4 y z:Option T}:(x0::x1::x2::x3::x4::y::l:TS).set 5 z=x0::x1::x2::x3::x4::z::l:=Eq.trans rfl rfl
@[simp high] theorem qGq{x0 x1 x2 x3 x4 x5 y z:Option T}:(x0::x1::x2::x3::x4::x5::y::l:TS).set 6 z=x0::x1::x2::x3::x4::x5::z::l:=Eq.trans rfl rfl
@[simp high] theorem qGz{x0 x1 x2 x3 x4 x5 x6 y z:Option T}:(x0::x1::x2::x3::x4::x5::x6::y::l:TS).set 7 z=x0::x1::x2::x3::x4::x5::x6::z::l:=Eq.trans rfl rfl
@[simp high] theorem qGi{x0 x1 x2 x3 x4 x5 x6 x7 y z:Option T}:(x0::x1::x2::x3::x4::x5::x6::x7::y::l:TS).set 8 z=x0::x1::x2::x3::x4::x5::x6::x7::z::l:=Eq.trans rfl rfl
@[simp high] theorem qGD{x0 x1 x2 x3 x4 x5 x6 x7 x8 y z:Option T}:(x0::x1::x2::x3::x4::x5::x6::x7::x8::y::l:TS).set 9 z=x0::x1::x2::x3::x4::x5::x6::x7::x8::z::l:=Eq.trans rfl rfl
@[simp high] theorem qFp{x0 x1 x2 x3 x4 x5 x6 x7 x8 x9 y z:Option T}:(x0::x1::x2::x3::x4::x5::x6::x7::x8::x9::y::l:TS).set 10 z=x0::x1::x2::x3::x4::x5::x6::x7::x8::x9::z::l:=Eq.trans rfl rfl
@[simp high] theorem qFR{x0 x1 x2 x3 x4 x5 x6 x7 x8 x9 x10 y z:Option T}:(x0::x1::x2::x3::x4::x5::x6::x7::x8::x9::x10::y::l:TS).set 11 z=x0::x1::x2::x3::x4::x5::x6::x7::x8::x9::x10::z::l:=Eq.trans rfl rfl
@[simp high] theorem qFG{x0 x1 x2 x3 x4 x5 x6 x7 x8 x9 x10 x11 y z:Option T}:(x0::x1::x2::x3::x4::x5::x6::x7::x8::x9::x10::x11::y::l:TS).set 12 z=x0::x1::x2::x3::x4::x5::x6::x7::x8::x9::x10::x11::z::l:=Eq.trans rfl rfl
@[simp high] theorem qFm{x0 x1 x2 x3 x4 x5 x6 x7 x8 x9 x10 x11 x12 y z:Option T}:(x0::x1::x2::x3::x4::x5::x6::x7::x8::x9::x10::x11::x12::y::l:TS).set 13 z=x0::x1::x2::x3::x4::x5::x6::x7::x8::x9::x10::x11::x12::z::l:=Eq.trans rfl rfl
variable{σ:TS}{C:List Nat}{e:E}{i:Nat}
theorem qFI(h:(C.contains i||C.contains (i+1000))=false):px gl P C (.asg (.name i) e) σ M=(pe gl P e σ M).bind λp=>.ok (.nx (σ.set i (some p.1.1)),p.2):=by
 rw[Bool.or_eq_false_iff]at h;rw[Zi,h.1,h.2];rfl
@[simp high] theorem qGx:px gl P [] (.asg (.name i) e) σ M=(pe gl P e σ M).bind λp=>.ok (.nx (σ.set i (some p.1.1)),p.2):=qFI rfl
variable{s:S}{r t0 u0:Ss}{σ':TS}{M':Mem}{c:E}{b:Bool}
end
theorem dT{p:Prop}{h:Decidable p}(hp:p):decide p=true:=uI hp
end _P
namespace Nt
noncomputable abbrev Stp:=Nat×Nat
noncomputable def one(x:List Nat)(p:Stp):List Nat:=x.set p.1 ((x.getD p.1 0+x.getD p.2 0) % 2)
noncomputable def row(x:List Nat)(L:List Stp):List Nat:=L.foldl one x
def Sg(n:Nat)(x:List Nat):Prop:=x.length=n/\∀v∈x,v<2
def OkS(n:Nat)(p:Stp):Prop:=p.1<n/\p.2<n/\p.1≠p.2
noncomputable def qE9(L:List Stp):List Nat:=L.flatMap λp=>[p.1,p.2]
noncomputable def add(x y:List Nat):List Nat:=(List.range x.length).map λk=>(x.getD k 0+y.getD k 0) % 2
noncomputable def zer(n:Nat):List Nat:=List.replicate n 0
noncomputable def pre(x:List Nat)(m:Nat):List Nat:=(List.range x.length).map λi=>if i<m then x.getD i 0 else 0
noncomputable def word(x:List Nat):List Nat:=(List.range x.length).map λt=>(((List.range x.length).filter λp=>decide (p&&& t=t)).map λp=>x.getD p 0).sum % 2
theorem qAI(x:List Nat):(word x).length=x.length:=by simp[word]
theorem word_sg{n:Nat}{x:List Nat}(h:Sg n x):Sg n (word x):=⟨by rw[qAI];exact h.1,λv hv=>by
 obtain⟨i,_,rfl⟩:=wW.mp hv;omega⟩
noncomputable def hr(n f:Nat):List Stp:=((List.range n).filter λa=>decide (a&&& f=0)).map λa=>(a,a+f)
noncomputable def hn(s:Nat):List (List Stp):=(List.range s).map λr=>hr (2 ^ s) (2 ^ r)
end Nt
namespace Cd
open _L (V)
open _P (QI QF zA Qz)
theorem C5{kvs:List (Int×V)}{k:Int}{v:V}(h:k∉kvs.map (·.1)):QF kvs k v=kvs++[(k,v)]:=by
 unfold QF;rw[if_neg];unfold Qz;rw[wu];rintro⟨p,hp,e⟩;exact h (wW.mpr ⟨p,hp,uK e⟩)
theorem merge_new:∀(more kvs:List (Int×V)),((kvs++more).map (·.1)).Nodup->zA kvs more=kvs++more
 | [],kvs,_=>by show kvs=_;simp
 |p::r,kvs,h=>by
  show zA (QF kvs p.1 p.2) r=_;have h':=h;rw[wk,List.map_cons,wn]at h';rw[C5 (λz=>h'.2.2 _ z _ (wU ..) rfl),merge_new r _ (by simpa using h)];simp
theorem E4:∀(ks:List Nat) (vs:List V),ks.length<=vs.length->((ks.map λ(n:Nat)=>(n:Int)).zip vs).map (·.1)=ks.map λ(n:Nat)=>(n:Int)
 | [],_,_=>by simp
 |k::ks,[],h=>by simp at h
 |k::ks,v::vs,h=>by
  rw[List.map_cons,List.zip_cons_cons,List.map_cons,E4 ks vs (by simpa using h)]
theorem nodup_int{ks:List Nat}(h:ks.Nodup):(ks.map λ(n:Nat)=>(n:Int)).Nodup:=List.pairwise_map.mpr (h.imp λz e=>z (by exact_mod_cast e))
noncomputable def prs(ks vs:List Nat):List (Int×V):=(ks.map λ(n:Nat)=>(n:Int)).zip (vs.map λ(n:Nat)=>V.int (n:Int))
theorem prs_keys{ks vs:List Nat}(h:ks.length=vs.length):(prs ks vs).map (·.1)=ks.map λ(n:Nat)=>(n:Int):=E4 ks _ (by simp[h])
theorem get_none{ks vs:List Nat}{p:Nat}(h:ks.length=vs.length)(hp:p∉ks):QI (prs ks vs) p=none:=by
 unfold QI;rw[Option.map_eq_none_iff,List.find?_eq_none];rintro q hq e;have:q.1∈(prs ks vs).map (·.1):=wW.mpr ⟨q,hq,rfl⟩;rw[prs_keys h]at this;obtain⟨n,hn,en⟩:=wW.mp this;have e:=uK e;rw[e]at en;have:n=p:=by exact_mod_cast en
 exact hp (this ▸ hn)
theorem get_some:∀{ks vs:List Nat}{p:Nat},ks.length=vs.length->p∈ks->QI (prs ks vs) p=some (.int ((vs.getD (ks.idxOf p) 0:Nat):Int))
 | [],_,_,_,h=>by cases h
 |k::ks,[],_,h,_=>by simp at h
 |k::ks,v::vs,p,h,hp=>by
  unfold prs QI;rw[List.map_cons,List.map_cons,List.zip_cons_cons,List.find?_cons];by_cases e:k=p
  ·subst e;simp[List.idxOf_cons]
  ·have hp':p∈ks:=by
    rcases wJ.mp hp with z|z
    ·exact absurd z.symm e
    ·exact z
   rw[uH (λz=>e (by have z:(k:Int)=p:=z;exact_mod_cast z))];have:=get_some (ks:=ks) (vs:=vs) (p:=p) (by simpa using h) hp';unfold prs QI at this;rw[List.idxOf_cons,show (k==p)=false from by simpa using e];simpa using this
noncomputable def oth(n:Nat)(F:List Nat):List Nat:=(List.range n).filter λp=>!decide (p∈F)
theorem mem_oth{n p:Nat}{F:List Nat}:p∈oth n F↔p<n/\p∉F:=by unfold oth;simp
theorem oth_succ(n:Nat)(F:List Nat):oth (n+1) F=oth n F++if n∈F then [] else [n]:=by
 unfold oth;rw[uB,List.filter_append];congr 1;by_cases h:n∈F<;>simp[h]
theorem oth_nodup(n:Nat)(F:List Nat):(oth n F).Nodup:=wx.filter _
theorem oth_idx{F:List Nat}:∀{n p:Nat},p<n->p∉F->(oth n F).idxOf p=(oth p F).length
 |n+1,p,h,hp=>by
  rw[oth_succ];by_cases e:p=n
  ·subst e;rw[if_neg hp,List.idxOf_append,if_neg (λz=>by have:=(mem_oth.mp z).1;omega)];simp
  ·have lt:p<n:=by omega
   rw[List.idxOf_append,if_pos (mem_oth.mpr ⟨lt,hp⟩)];exact oth_idx lt hp
noncomputable def cf(F X D:List Nat)(p:Nat):Nat:=if p∈F then D.getD (F.idxOf p) 0 else X.getD (oth p F).length 0
theorem oth_len:∀{n:Nat}{F:List Nat},F.Nodup->(∀x∈F,x<n)->(oth n F).length+F.length=n:=by
 intro n F nd h;have p:(oth n F++F).Perm (List.range n):=by
  refine(vX ?_ wx).mpr λx=>?_
  ·exact wn.mpr ⟨oth_nodup n F,nd,λa ha b hb e=>(mem_oth.mp ha).2 (e ▸ hb)⟩
  ·rw[wF,mem_oth,wZ];by_cases hx:x∈F
   ·simp[hx,h x hx]
   ·simp[hx]
 have:=p.length_eq;rw[wV,vC]at this;exact this
theorem cf_two{F X D:List Nat}(hX:∀x∈X,x<2)(hD:∀x∈D,x<2)(p:Nat):cf F X D p<2:=by
 have g:∀(L:List Nat) (i:Nat),(∀x∈L,x<2)->L.getD i 0<2:=λL i h=>by
  rw[wY];cases e:L[i]? with
  |none=>simp
  |some y=>exact h y (wT e)
 unfold cf;split
 ·exact g D _ hD
 ·exact g X _ hX
end Cd
namespace _P
open _L (V)
noncomputable def N4(hm bs:Nat):Ss:=.cons (.ifs (.call hm (.cons (.idx (.var 2) (nE 0)) (.cons (.var 3) .nil))) (.cons (.asg (.name 2) (.call bs (.cons (.var 2) (.cons (.dix (.var 0) (.var 3)) .nil)))) .nil) .nil) .nil
noncomputable def B7(hm bs:Nat):Ss:=.cons (.ifs (.call hm (.cons (.idx (.dix (.var 0) (.var 3)) (nE 0)) (.cons (.var 4) .nil))) (.cons (.put (.var 0) (.var 3) (.call bs (.cons (.dix (.var 0) (.var 3)) (.cons (.var 2) .nil)))) .nil) .nil) .nil
noncomputable def qDj(hm bs no:Nat):Ss:=.cons (.dfor 3 0 (N4 hm bs)) (.cons (.ifs (.cmp .ne (.bin .band (.idx (.var 2) (nE 0)) (.var 1)) (nE 0)) (.cons (.asg (.name 4) (.idx (.call no (.cons (.bin .band (.idx (.var 2) (nE 0)) (.var 1)) .nil)) (nE 0))) (.cons (.for_ (.name 3) (.list (.dlst (.var 0))) (B7 hm bs)) (.cons (.put (.var 0) (.var 4) (.var 2)) .nil))) .nil) (.cons (.ret (.var 2)) .nil))
noncomputable def O8(pi:Nat):Ss:=.cons (.asg (.name 6) (.call pi (.cons (.var 3) (.cons (.var 2) (.cons (.var 5) .nil))))) (.cons (.ifs (.cmp .eq (.bin .band (.idx (.var 6) (nE 0)) (.var 2)) (nE 0)) (.cons (.expr (.app (.var 4) (.var 6))) .nil) .nil) .nil)
noncomputable def qCi(mk pi:Nat):Ss:=.cons (.asg (.name 2) (.call mk (.cons (.idx (.var 0) (nE 1)) .nil))) (.cons (.asg (.name 3) .dnew) (.cons (.asg (.name 4) (.lst .nil)) (.cons (.for_ (.name 5) (.list (.var 1)) (O8 pi)) (.cons (.ret (.tup (.cons (.var 3) (.cons (.var 4) .nil)))) .nil))))
def PA(h:AH)(X:List Nat)(a:Nat)(q:NP):Prop:=a∉X/\h[a]?=some (.tup [.int (q.1:Nat),.int (q.2:Nat)])
section
variable{F:Nat->List V->AH->RV}{σ:List (Option V)}{h h1 h2:AH}
theorem v_{i:Nat}{v:V}(e:σ[i]?=some (some v)):ev F (.var i) σ h=.ok (v,h):=by
 show (match σ[i]? with|some (some v)=>Res.ok (v,h)|_=>.stuck)=_;rw[e]
theorem qEh{a:E}{p x y:Nat}(e:ev F a σ h=.ok (.ref p,h1))(hp:h1[p]?=some (.tup [.int (x:Nat),.int (y:Nat)])):ev F (.idx a (nE 0)) σ h=.ok (.int (x:Nat),h1):=by
 show ((ev F a σ h).bind _)=_;rw[e,tF];show (match items h1 p with|some xs=>_|none=>_)=_;rw[show items h1 p=some [.int (x:Nat),.int (y:Nat)] by unfold items;rw[hp]];rfl
theorem qE1{d k:Nat}{D:Nat}{i:Int}{kvs:List (Int×V)}{v:V}(ed:σ[d]?=some (some (.ref D)))(ek:σ[k]?=some (some (.int i)))(hD:J4 h D=some kvs)(hv:QI kvs i=some v):ev F (.dix (.var d) (.var k)) σ h=.ok (v,h):=by
 show ((ev F (.var d) σ h).bind _)=_;rw[v_ ed,tF];show ((ev F (.var k) σ h).bind _)=_;rw[v_ ek,tF];show (match J4 h D with|some kvs=>_|none=>_)=_;rw[hD];show (match QI kvs i with|some v=>_|none=>_)=_;rw[hv]
theorem G0{f:Nat}{a b:E}{x y v:V}{h3:AH}(ea:ev F a σ h=.ok (x,h1))(eb:ev F b σ h1=.ok (y,h2))(e:F f [x,y] h2=.ok (v,h3)):ev F (.call f (.cons a (.cons b .nil))) σ h=.ok (v,h3):=by
 show ((ev F a σ h).bind _).bind _=_;rw[ea,tF];show (((ev F b σ h1).bind _).bind _).bind _=_;rw[eb,tF];show (F f [x,y] h2).nx=_;rw[e];rfl
theorem qBD{f:Nat}{a:E}{x v:V}(ea:ev F a σ h=.ok (x,h1))(e:F f [x] h1=.ok (v,h2)):ev F (.call f (.cons a .nil)) σ h=.ok (v,h2):=by
 show ((ev F a σ h).bind _).bind _=_;rw[ea,tF];show (F f [x] h1).nx=_;rw[e];rfl
theorem qAm{f:Nat}{i j k:Nat}{x y z v:V}(e1:σ[i]?=some (some x))(e2:σ[j]?=some (some y))(e3:σ[k]?=some (some z))(e:F f [x,y,z] h=.ok (v,h2)):ev F (.call f (.cons (.var i) (.cons (.var j) (.cons (.var k) .nil)))) σ h=.ok (v,h2):=by
 show ((ev F (.var i) σ h).bind _).bind _=_;rw[v_ e1,tF];show (((ev F (.var j) σ h).bind _).bind _).bind _=_;rw[v_ e2,tF];show ((((ev F (.var k) σ h).bind _).bind _).bind _).bind _=_;rw[v_ e3,tF];show (F f [x,y,z] h).nx=_;rw[e];rfl
theorem qC7{a:E}{i x y:Nat}(ea:ev F a σ h=.ok (.int (x:Nat),h1))(e:σ[i]?=some (some (.int (y:Nat)))):ev F (.bin .band a (.var i)) σ h=.ok (.int ((x&&& y:Nat):Int),h1):=by
 show ((ev F a σ h).bind _)=_;rw[ea,tF];show ((ev F (.var i) σ h1).bind _)=_;rw[v_ e,tF];rfl
theorem qBN{i:Nat}{a:E}{v:V}{r:Ss}{q:RS}(ea:ev F a σ h=.ok (v,h1))(hr:exs F r (σ.set i (some v)) h1=q):exs F (.cons (.asg (.name i) a) r) σ h=q:=by
 show (((ev F a σ h).bind _).bind _)=_;rw[ea,tF];exact hr
theorem qEl{c:E}{t u r:Ss}{q:RS}(ec:ev F c σ h=.ok (.bl true,h1))(hr:((exs F t σ h1).bind λp=>match p.1 with | .nx σ1=>exs F r σ1 p.2|o=>.ok (o,p.2))=q):exs F (.cons (.ifs c t u) r) σ h=q:=by
 show (((asB (ev F c σ h)).bind _).bind _)=_;rw[ec];exact hr
theorem qEX{c:E}{t u r:Ss}{q:RS}(ec:ev F c σ h=.ok (.bl false,h1))(hr:((exs F u σ h1).bind λp=>match p.1 with | .nx σ1=>exs F r σ1 p.2|o=>.ok (o,p.2))=q):exs F (.cons (.ifs c t u) r) σ h=q:=by
 show (((asB (ev F c σ h)).bind _).bind _)=_;rw[ec];exact hr
theorem u8{op:COp}{a:E}{x:Nat}{b:Bool}(ea:ev F a σ h=.ok (.int (x:Nat),h1))(hb:P5 op (.int (x:Nat)) (.int 0) h1=some b):ev F (.cmp op a (nE 0)) σ h=.ok (.bl b,h1):=by
 show ((ev F a σ h).bind _)=_;rw[ea,tF];show qA1 op (.int (x:Nat)) (.int 0) h1=_;unfold qA1;rw[hb]
theorem qGI{o k:Nat}{a:E}{v:V}{D:Nat}{i:Int}{kvs:List (Int×V)}(ea:ev F a σ h=.ok (v,h1))(eo:σ[o]?=some (some (.ref D)))(ek:σ[k]?=some (some (.int i)))(hD:h1[D]?=some (.ob (.dct kvs)))(hl:kvs.length<lim):ex F (.put (.var o) (.var k) a) σ h=.ok (.nx σ,h1.set D (.ob (.dct (QF kvs i v)))):=by
 show ((ev F a σ h).bind _)=_;rw[ea,tF];show ((ev F (.var o) σ h1).bind _)=_;rw[v_ eo,tF];show ((ev F (.var k) σ h1).bind _)=_;rw[v_ ek,tF];show (match qz h1 D with|some xs=>_|none=>_)=_;rw[show qz h1 D=none by unfold qz;rw[hD]];show (match zU h1 D with|some xs=>_|none=>_)=_;rw[show zU h1 D=some kvs by unfold zU;rw[hD]];dsimp only;rw[if_pos hl]
end
def TR(h:AH)(X:List Nat)(told:List (Nat×NP))(kvs:List (Int×V)):Prop:=jb (λ(q:Nat×NP) (p:Int×V)=>p.1=((q.1:Nat):Int)/\∃a,p.2=.ref a/\PA h X a q.2) told kvs
theorem TR.keep{h h':AH}{X:List Nat}(kp:∀a o,a∉X->h[a]?=some o->a∉X/\h'[a]?=some o){told:List (Nat×NP)}{kvs:List (Int×V)}(r:TR h X told kvs):TR h' X told kvs:=
 qx (λq p ⟨e,a,ea,p1,p2⟩=>⟨e,a,ea,(kp _ _ p1 p2).1,(kp _ _ p1 p2).2⟩) r
theorem TR.keys{h:AH}{X:List Nat}:∀{told:List (Nat×NP)}{kvs:List (Int×V)},TR h X told kvs->kvs.map (·.1)=told.map λq=>((q.1:Nat):Int)
 | [],_,r=>by cases r;rfl
 |q::told,_,⟨p,kvs,rfl,⟨e,_⟩,r⟩=>by rw[List.map_cons,List.map_cons,e,TR.keys (told:=told) r]
theorem TR.get{h:AH}{X:List Nat}{k:Nat}{v:NP}:∀{told:List (Nat×NP)}{kvs:List (Int×V)},TR h X told kvs->(told.map (·.1)).Nodup->(k,v)∈told->∃a,QI kvs ((k:Nat):Int)=some (.ref a)/\PA h X a v
 | [],_,_,_,m=>by cases m
 |q::told,_,⟨p,kvs,rfl,⟨e,a,ea,pa⟩,r⟩,nd,m=>by
  unfold QI;rw[List.find?_cons];rcases wJ.mp m with rfl|m
  ·rw[uI e];exact⟨a,by rw[<-ea];rfl,pa⟩
  ·have hne:q.1≠k:=λz=>by
    rw[List.map_cons,wf]at nd;exact nd.1 (wW.mpr ⟨(k,v),m,z.symm⟩)
   rw[uH (by rw[e];omega)];rw[List.map_cons,wf]at nd;exact TR.get (told:=told) r nd.2 m
theorem TR.has{h:AH}{X:List Nat}{k:Nat}:∀{told:List (Nat×NP)}{kvs:List (Int×V)},TR h X told kvs->Qz kvs ((k:Nat):Int)=told.any λq=>decide (q.1=k)
 | [],_,r=>by cases r;rfl
 |q::told,_,⟨p,kvs,rfl,⟨e,_⟩,r⟩=>by
  show (decide (p.1=_)||Qz kvs _)=(decide (q.1=k)||_);rw[TR.has (told:=told) r];congr 1;rw[e,wl,decide_eq_true_iff,decide_eq_true_iff];omega
theorem TR.map{h:AH}{X:List Nat}{k a:Nat}{v:NP}(pa:PA h X a v):∀{told:List (Nat×NP)}{kvs:List (Int×V)},TR h X told kvs->TR h X (told.map λq=>if q.1=k then (q.1,v) else q) (kvs.map λp=>if p.1=((k:Nat):Int) then (p.1,.ref a) else p)
 | [],_,r=>by cases r;rfl
 |q::told,_,⟨p,kvs,rfl,⟨e,r0⟩,r⟩=>by
  refine⟨_,_,rfl,?_,TR.map pa (told:=told) r⟩;dsimp only;by_cases z:q.1=k
  ·rw[if_pos z,if_pos (by rw[e,z])];exact⟨e,a,rfl,pa⟩
  ·rw[if_neg z,if_neg (by rw[e];omega)];exact⟨e,r0⟩
theorem TR.put{h:AH}{X:List Nat}{k a:Nat}{v:NP}{told:List (Nat×NP)}{kvs:List (Int×V)}(pa:PA h X a v)(r:TR h X told kvs):TR h X (l7 told k v) (QF kvs ((k:Nat):Int) (.ref a)):=by
 unfold l7 QF;rw[r.has];split
 ·exact TR.map pa r
 ·exact zQ r ⟨_,[],rfl,⟨rfl,a,rfl,pa⟩,rfl⟩
theorem a5{pre rest:List (Nat×NP)}{k:Nat}{t v:NP}(nd:((pre++(k,t)::rest).map (·.1)).Nodup):l7 (pre++(k,t)::rest) k v=pre++(k,v)::rest:=by
 rw[wk,List.map_cons]at nd;have nd:=wn.mp nd;have h1:∀q∈pre,q.1≠k:=λq hq z=>nd.2.2 q.1 (wW.mpr ⟨q,hq,rfl⟩) k (by simp) z;have h2:∀q∈rest,q.1≠k:=λq hq z=>(wf.mp nd.2.1).1 (wW.mpr ⟨q,hq,z⟩);unfold l7;rw[if_pos (by simp),wk,List.map_cons,if_pos rfl];congr 1
 ·conv=>rhs;rw[<-List.map_id pre]
  exact vN λq hq=>by rw[if_neg (h1 q hq)];rfl
 ·congr 1
  conv=>rhs;rw[<-List.map_id rest]
  exact vN λq hq=>by rw[if_neg (h2 q hq)];rfl
section
variable{gl:List T}{A X:List Nat}{M:Mem}{F:Nat->List V->AH->RV}{hm bs no D:Nat}
structure Hp3(gl:List T)(A X:List Nat)(M:Mem)(F:Nat->List V->AH->RV)(hm bs no:Nat):Prop where
 hm:∀(h:AH) (m n:Nat),RelM gl A X h M->n<=1000->∃h',F hm [.int (m:Nat),.int (n:Nat)] h=.ok (.bl (m.testBit n),h')/\Frm A h h'/\RelM gl A X h' M
 bs:∀(h:AH) (a b:Nat) (p q:NP),RelM gl A X h M->PA h X a p->PA h X b q->∃h' r,F bs [.ref a,.ref b] h=.ok (.ref r,h')/\Frm A h h'/\RelM gl A X h' M/\PA h' X r (both p q)
 no:∀(h:AH) (m:Nat),RelM gl A X h M->m<2 ^ 1000->∃h' r,F no [.int (m:Nat)] h=.ok (.ref r,h')/\Frm A h h'/\RelM gl A X h' M/\∃fz,h'[r]?=some (.lst fz ((qZ m).map λn=>V.int (n:Nat)))
variable (W:Hp3 gl A X M F hm bs no)(hD:D∈X)(hA:D∉A)
include W hD hA
theorem qGf{kvs:List (Int×V)}{fr:V}{x4:Option V}:∀(rest:List (Nat×NP)) (one:NP) (a:Nat) (x3:Option V) (h:AH),RelM gl A X h M->h[D]?=some (.ob (.fdc kvs))->(∀q∈rest,q.1<1000/\∃b,QI kvs ((q.1:Nat):Int)=some (.ref b)/\PA h X b q.2)->PA h X a one ->
  ∃h' a' x3',qA5 3 D kvs (exs F (N4 hm bs)) (rest.map λq=>((q.1:Nat):Int)) [some (.ref D),some fr,some (.ref a),x3,x4] h=.ok (.nx [some (.ref D),some fr,some (.ref a'),x3',x4],h')/\Frm (A++[D]) h h'/\RelM gl A X h' M/\h'[D]?=some (.ob (.dct kvs))/\PA h' X a' (qW rest one)
 | [],one,a,x3,h,R,eD,hr,pa=>by
  refine⟨h.set D (.ob (.dct kvs)),a,x3,?_,(Frm.refl (A++[D]) h).set (.inl (by simp)) _,R.setX hD hA _,wb (qA eD),pa.1,?_⟩
  ·show (if _ then _ else _)=_;rw[if_pos eD]
  ·rw[wX (by rintro rfl;exact pa.1 hD)];exact pa.2
 |q::rest,one,a,x3,h,R,eD,hr,pa=>by
  obtain⟨h1,e1,f1,R1⟩:=W.hm h one.1 q.1 R (by have:=(hr q (by simp)).1;omega);have kp1:=R.keepN f1;have lD:D<h.length:=qA eD;have eD1:h1[D]?=some (.ob (.fdc kvs)):=by rw[f1.2 D lD hA];exact eD
  have ec:ev F (.call hm (.cons (.idx (.var 2) (nE 0)) (.cons (.var 3) .nil))) [some (.ref D),some fr,some (.ref a),some (.int (q.1:Nat)),x4] h=.ok (.bl (one.1.testBit q.1),h1):=G0 (qEh (v_ rfl) pa.2) (v_ rfl) e1;have run:∃h2 a2,exs F (N4 hm bs) [some (.ref D),some fr,some (.ref a),some (.int (q.1:Nat)),x4] h=.ok (.nx [some (.ref D),some fr,some (.ref a2),some (.int (q.1:Nat)),x4],h2)/\Frm A h h2/\RelM gl A X h2 M/\PA h2 X a2 (if one.1.testBit q.1=true then both one q.2 else one):=by
   have pa1:PA h1 X a one:=⟨pa.1,(kp1 _ _ pa.1 pa.2).2⟩
   cases hb:one.1.testBit q.1 with
   |false=>
    rw[hb]at ec;exact⟨h1,a,qEX ec rfl,f1,R1,pa1⟩
   |true=>
    rw[hb]at ec;obtain⟨_,b,gb,pb⟩:=hr q (by simp);obtain⟨h2,r,e2,f2,R2,p2⟩:=W.bs h1 a b one q.2 R1 pa1 ⟨pb.1,(kp1 _ _ pb.1 pb.2).2⟩;refine⟨h2,r,qEl ec ?_,f1.trans f2,R2,p2⟩;have ea:exs F (.cons (.asg (.name 2) (.call bs (.cons (.var 2) (.cons (.dix (.var 0) (.var 3)) .nil)))) .nil) [some (.ref D),some fr,some (.ref a),some (.int (q.1:Nat)),x4] h1=.ok (.nx [some (.ref D),some fr,some (.ref r),some (.int (q.1:Nat)),x4],h2):=qBN (G0 (v_ rfl) (qE1 rfl rfl (by unfold J4;rw[eD1]) gb) e2) rfl;rw[ea];rfl
  obtain⟨h2,a2,e2,f2,R2,p2⟩:=run;have eD2:h2[D]?=some (.ob (.fdc kvs)):=by rw[f2.2 D lD hA];exact eD
  have kp2:=R.keepN f2;obtain⟨h',a',x3',e3,f3,R3,eD3,p3⟩:=qGf rest _ a2 (some (.int (q.1:Nat))) h2 R2 eD2 (λq hq=>by
   obtain⟨l,b,gb,pb⟩:=hr q (by simp[hq]);exact⟨l,b,gb,pb.1,(kp2 _ _ pb.1 pb.2).2⟩) p2
  refine⟨h',a',x3',?_,f2.more.trans f3,R3,eD3,p3⟩;rw[List.map_cons];show ((exs F (N4 hm bs) [some (.ref D),some fr,some (.ref a),some (.int (q.1:Nat)),x4] h).nx.bind _)=_;rw[e2];show (if _ then _ else _)=_;rw[if_pos eD2];exact e3
omit W hD hA in
theorem QO(f:Nat)(l:NP)(r:List (Nat×NP)):(jo f l r).map (·.1)=r.map (·.1):=by
 unfold jo;rw[vI];exact vN λq _=>by dsimp only[Function.comp];split<;>rfl
theorem qGL{fr:V}{f a p:Nat}{l:NP}(hf:f<=1000)(hpX:p≠D){ks:List V}:∀(rest pre:List (Nat×NP)) (kvs:List (Int×V)) (x3:Option V) (h:AH),RelM gl A X h M->h[D]?=some (.ob (.dct kvs))->TR h X (jo f l pre++rest) kvs->((pre++rest).map (·.1)).Nodup->(pre++rest).length<lim->PA h X a l->p∉A->h[p]?=some (.lst false ks)->ks=(pre++rest).map (λq=>V.int (q.1:Nat)) ->
  ∃h' x3' kvs',Jr (.list p) (.name 3) (exs F (B7 hm bs)) rest.length pre.length [some (.ref D),some fr,some (.ref a),x3,some (.int (f:Nat))] h=.ok (.nx [some (.ref D),some fr,some (.ref a),x3',some (.int (f:Nat))],h')/\Frm (A++[D]) h h'/\RelM gl A X h' M/\h'[D]?=some (.ob (.dct kvs'))/\TR h' X (jo f l (pre++rest)) kvs'/\PA h' X a l
 | [],pre,kvs,x3,h,R,eD,tr,nd,hl,pa,hp,ep,ek=>by
  refine⟨h,x3,kvs,?_,Frm.refl _ _,R,eD,by simpa [jo] using tr,pa⟩;show (if jF h pre.length (.list p) then _ else _)=_;rw[if_pos (by show (match qO h p with|some xs=>_|none=>_)=_;rw[qJ ep,ek];simp)]
 |q::rest,pre,kvs,x3,h,R,eD,tr,nd,hl,pa,hp,ep,ek=>by
  have lD:D<h.length:=qA eD;have nd':((jo f l pre++q::rest).map (·.1)).Nodup:=by rw[wk,QO,<-wk];exact nd
  obtain⟨b,gb,pb⟩:=tr.get nd' (k:=q.1) (v:=q.2) (by simp);obtain⟨h1,e1,f1,R1⟩:=W.hm h q.2.1 f R hf;have kp1:=R.keepN f1;have eD1:h1[D]?=some (.ob (.dct kvs)):=by rw[f1.2 D lD hA];exact eD
  have ec:ev F (.call hm (.cons (.idx (.dix (.var 0) (.var 3)) (nE 0)) (.cons (.var 4) .nil))) [some (.ref D),some fr,some (.ref a),some (.int (q.1:Nat)),some (.int (f:Nat))] h=.ok (.bl (q.2.1.testBit f),h1):=G0 (qEh (qE1 rfl rfl (by unfold J4;rw[eD]) gb) pb.2) (v_ rfl) e1;have run:∃h2 kvs2,exs F (B7 hm bs) [some (.ref D),some fr,some (.ref a),some (.int (q.1:Nat)),some (.int (f:Nat))] h=.ok (.nx [some (.ref D),some fr,some (.ref a),some (.int (q.1:Nat)),some (.int (f:Nat))],h2)/\Frm (A++[D]) h h2/\RelM gl A X h2 M/\h2[D]?=some (.ob (.dct kvs2))/\TR h2 X (jo f l (pre++[q])++rest) kvs2/\PA h2 X a l:=by
   have pa1:PA h1 X a l:=⟨pa.1,(kp1 _ _ pa.1 pa.2).2⟩
   have sp:jo f l (pre++[q])++rest=jo f l pre++(if q.2.1.testBit f=true then (q.1,both q.2 l) else q)::rest:=by
    unfold jo;rw[wk,wm];rfl
   rw[sp];cases hb:q.2.1.testBit f with
   |false=>
    rw[hb]at ec;exact⟨h1,kvs,qEX ec rfl,f1.more,R1,eD1,tr.keep kp1,pa1⟩
   |true=>
    rw[hb]at ec;obtain⟨h2,r,e2,f2,R2,p2⟩:=W.bs h1 b a q.2 l R1 ⟨pb.1,(kp1 _ _ pb.1 pb.2).2⟩ pa1;have kp2:=R1.keepN f2;have eD2:h2[D]?=some (.ob (.dct kvs)):=by rw[f2.2 D (qA eD1) hA];exact eD1
    have kl:kvs.length<lim:=by
     have:=congrArg List.length tr.keys;rw[wK,wK,wV,show (jo f l pre).length=pre.length by unfold jo;rw[wK]]at this;rw[wV]at hl;omega
    have ep2:ex F (.put (.var 0) (.var 3) (.call bs (.cons (.dix (.var 0) (.var 3)) (.cons (.var 2) .nil)))) [some (.ref D),some fr,some (.ref a),some (.int (q.1:Nat)),some (.int (f:Nat))] h1=.ok (.nx [some (.ref D),some fr,some (.ref a),some (.int (q.1:Nat)),some (.int (f:Nat))],h2.set D (.ob (.dct (QF kvs ((q.1:Nat):Int) (.ref r))))):=qGI (G0 (qE1 rfl rfl (by unfold J4;rw[eD1]) gb) (v_ rfl) e2) rfl rfl eD2 kl;have kp3:∀a o,a∉X->h2[a]?=some o->a∉X/\(h2.set D (.ob (.dct (QF kvs ((q.1:Nat):Int) (.ref r)))))[a]?=some o:=λa o z e=>⟨z,by
     rw[wX (by rintro rfl;exact z hD)];exact e⟩
    refine⟨_,_,qEl ec ?_,(f1.trans f2).more.set (.inl (by simp)) _,R2.setX hD hA _,wb (qA eD2),?_,⟨pa1.1,(kp3 _ _ pa1.1 (kp2 _ _ pa1.1 pa1.2).2).2⟩⟩
    ·show (((ex F (.put (.var 0) (.var 3) (.call bs (.cons (.dix (.var 0) (.var 3)) (.cons (.var 2) .nil)))) _ h1).bind _).bind _)=_;rw[ep2];rfl
    ·have:=TR.put (k:=q.1) (⟨p2.1,(kp3 _ _ p2.1 p2.2).2⟩:PA _ X r (both q.2 l)) ((tr.keep kp1).keep kp2 |>.keep kp3);rw[a5 (t:=q.2) nd']at this;exact this
  obtain⟨h2,kvs2,e2,f2,R2,eD2,tr2,pa2⟩:=run;have ep2:h2[p]?=some (.lst false ks):=by rw[f2.2 p (qA ep) (by simp[hp,hpX])];exact ep
  obtain⟨h',x3',kvs',e3,f3,R3,eD3,tr3,pa3⟩:=qGL hf hpX rest (pre++[q]) kvs2 (some (.int (q.1:Nat))) h2 R2 eD2 tr2 (by simpa using nd) (by simpa using hl) pa2 hp ep2 (by simpa using ek);refine⟨h',x3',kvs',?_,f2.trans f3,R3,eD3,by simpa using tr3,pa3⟩;rw[List.length_cons];show (match qi h pre.length (.list p) with|some (x,h1)=>_|none=>_)=_;rw[show qi h pre.length (.list p)=some (.int (q.1:Nat),h) by
   show (match qO h p with|some xs=>_|none=>_)=_;rw[qJ ep,ek];simp]
  show ((exs F (B7 hm bs) [some (.ref D),some fr,some (.ref a),some (.int (q.1:Nat)),some (.int (f:Nat))] h).bind _)=_;rw[e2];have:(pre++[q]).length=pre.length+1:=by simp
  rw[this]at e3;exact e3
omit W hD hA in
theorem bits_mem{m i:Nat}:i∈qZ m↔m.testBit i=true:=by
 unfold qZ;rw[we,wZ];constructor
 ·exact λh=>h.2
 ·intro h;refine⟨?_,h⟩;have h1:=Nat.ge_two_pow_of_testBit h;have h0:m≠0:=λz=>by subst z;simp at h
  unfold PySem.Builtin.Int.intBits;rw[if_neg (by simpa using h0)];have:=(Nat.le_log2 h0).mpr h1;show i<(m:Int).natAbs.log2+1;rw[Int.natAbs_natCast];omega
omit W hD hA in
theorem G4{m:Nat}(h:m≠0):∃r,qZ m=JG m::r:=by
 obtain⟨i,hi⟩:=Nat.exists_testBit_of_ne_zero h;have:=bits_mem.mpr hi;unfold JG;cases e:qZ m with
 |nil=>rw[e]at this;cases this
 |cons x r=>exact⟨r,rfl⟩
omit W hD hA in
theorem W8{m:Nat}(h:m≠0):m.testBit (JG m)=true:=by
 obtain⟨r,e⟩:=G4 h;exact bits_mem.mp (by rw[e];simp)
omit W hD hA in
theorem qAg{m n:Nat}(h:m≠0)(hm:m<2 ^ n):JG m<n:=by
 refine Decidable.byContradiction λz=>?_;have:=vS (x:=m) (i:=JG m) (wG hm (wo (by decide) (by omega)));rw[W8 h]at this;cases this
structure DK(told:List (Nat×NP)):Prop where
 nd:(told.map (·.1)).Nodup
 lt:∀q∈told,q.1<1000
omit W hD hA in
theorem DK.next{told:List (Nat×NP)}{free:Nat}{one:NP}(d:DK told)(hf:free<2 ^ 1000):DK (qu told free one).1/\(qu told free one).1.length<=told.length+1:=by
 unfold qu;dsimp only;split
 ·exact⟨d,Nat.le_succ _⟩
 ·rename_i hx;have hl:=qAg hx (vi Nat.and_le_right hf);generalize JG ((qW told one).1&&& free)=f at hl;generalize qW told one=l;have nd:((jo f l told).map (·.1)).Nodup:=by rw[QO];exact d.nd
  have lt:∀q∈jo f l told,q.1<1000:=λq hq=>by
   have:q.1∈(jo f l told).map (·.1):=wW.mpr ⟨q,hq,rfl⟩;rw[QO]at this;obtain⟨q',hq',e⟩:=wW.mp this;rw[<-e];exact d.lt q' hq'
  have ln:(jo f l told).length=told.length:=by unfold jo;rw[wK]
  rw[<-ln];generalize jo f l told=s at nd lt;unfold l7;split
  ·refine⟨⟨?_,λq hq=>?_⟩,by rw[wK];exact Nat.le_succ _⟩
   ·rw[vI];have:((λx:Nat×NP=>x.1)∘λq:Nat×NP=>if q.1=f then (q.1,l) else q)=λq=>q.1:=by
     funext q;dsimp only[Function.comp];split<;>rfl
    rw[this];exact nd
   ·obtain⟨q',hq',rfl⟩:=wW.mp hq;have:=lt q' hq';split<;>exact this
  ·rename_i hn;refine⟨⟨?_,λq hq=>?_⟩,by simp⟩
   ·rw[wk,wn];refine⟨nd,by simp,λa ha b hb=>?_⟩;have:b=f:=by simpa using hb
    subst this;obtain⟨q,hq,rfl⟩:=wW.mp ha;intro z;exact hn (by rw[wu];exact⟨q,hq,by simpa using z⟩)
   ·rcases wF.mp hq with hq|hq
    ·exact lt q hq
    ·rw[wP.mp hq];exact hl
omit W in
theorem kpD{h h':AH}(R:RelM gl A X h M)(f:Frm (A++[D]) h h'):∀a o,a∉X->h[a]?=some o->a∉X/\h'[a]?=some o:=λa o z e=>⟨z,(f.2 a (qA e) λy=>by
 rcases wF.mp y with y|y
 ·exact z (R.sub _ y)
 ·rw[wP.mp y]at z;exact z hD).trans e⟩
theorem qFs{told:List (Nat×NP)}{free:Nat}{kvs:List (Int×V)}{one:NP}{a:Nat}{h:AH}(R:RelM gl A X h M)(eD:h[D]?=some (.ob (.dct kvs)))(tr:TR h X told kvs)(dk:DK told)(hl:told.length<2000)(hf:free<2 ^ 1000)(pa:PA h X a one):
  ∃h' a' kvs',exs F (qDj hm bs no) [some (.ref D),some (.int (free:Nat)),some (.ref a),none,none] h=.ok (.rt (.ref a'),h')/\Frm (A++[D]) h h'/\RelM gl A X h' M/\h'[D]?=some (.ob (.dct kvs'))/\TR h' X (qu told free one).1 kvs'/\PA h' X a' (qu told free one).2:=by
 have kp0:∀(o:O) b o',b∉X->h[b]?=some o'->b∉X/\(h.set D o)[b]?=some o':=λo b o' z e=>⟨z,by
  rw[wX (by rintro rfl;exact z hD)];exact e⟩
 obtain⟨h1,a1,x3,e1,f1,R1,eD1,p1⟩:=qGf (fr:=.int (free:Nat)) (x4:=none) (kvs:=kvs) W hD hA told one a none (h.set D (.ob (.fdc kvs))) (R.setX hD hA _) (wb (qA eD)) (λq hq=>by
  obtain⟨b,gb,pb⟩:=tr.get dk.nd (k:=q.1) (v:=q.2) hq;exact⟨dk.lt q hq,b,gb,pb.1,(kp0 _ _ _ pb.1 pb.2).2⟩) ⟨pa.1,(kp0 _ _ _ pa.1 pa.2).2⟩
 have f01:Frm (A++[D]) h h1:=((Frm.refl (A++[D]) h).set (.inl (by simp)) _).trans f1;have kp1:=kpD hD hA R f01;have tr1:=tr.keep kp1;have l1:=hl;have s1:∀(r:Ss) (q:RS),exs F r [some (.ref D),some (.int (free:Nat)),some (.ref a1),x3,none] h1=q->exs F (.cons (.dfor 3 0 (N4 hm bs)) r) [some (.ref D),some (.int (free:Nat)),some (.ref a),none,none] h=q:=λr q hq=>by
  show ((match zU h D with|some kvs=>qA5 3 D kvs (exs F (N4 hm bs)) (kvs.map λ(q:Int×V)=>q.1) [some (.ref D),some (.int (free:Nat)),some (.ref a),none,none] (h.set D (.ob (.fdc kvs)))|none=>.stuck).bind _)=_;rw[show zU h D=some kvs by unfold zU;rw[eD]];dsimp only;rw[tr.keys,e1];exact hq
 have exx:∀{σ:List (Option V)}{h:AH}{a:Nat},σ[2]?=some (some (.ref a))->σ[1]?=some (some (.int (free:Nat)))->PA h X a (qW told one)->ev F (.bin .band (.idx (.var 2) (nE 0)) (.var 1)) σ h=.ok (.int (((qW told one).1&&& free:Nat):Int),h):=λe2 e1 p=>qC7 (qEh (v_ e2) p.2) e1;by_cases hx:(qW told one).1&&& free=0
 ·have tn:qu told free one=(told,qW told one):=by unfold qu;dsimp only;rw[if_pos hx]
  rw[tn];refine⟨h1,a1,kvs,?_,f01,R1,eD1,tr1,p1⟩;refine s1 _ _ ?_;refine qEX (u8 (exx rfl rfl p1) ?_) rfl;rw[hx];rfl
 ·have tn:qu told free one=(l7 (jo (JG ((qW told one).1&&& free)) (qW told one) told) (JG ((qW told one).1&&& free)) (qW told one),qW told one):=by unfold qu;dsimp only;rw[if_neg hx]
  rw[tn];have hlt:(qW told one).1&&& free<2 ^ 1000:=vi Nat.and_le_right hf;have hlow:=qAg hx hlt;obtain⟨tl,eb⟩:=G4 hx;obtain⟨h2,r,e2,f2,R2,fz,er⟩:=W.no h1 _ R1 hlt;have kp2:=R1.keepN f2;have eD2:h2[D]?=some (.ob (.dct kvs)):=by rw[f2.2 D (qA eD1) hA];exact eD1
  generalize hfl:JG ((qW told one).1&&& free)=f at hlow eb;have tr2:=tr1.keep kp2;have hpX:h2.length≠D:=λz=>by have:=qA eD2;omega
  have hpA:h2.length∉A:=λz=>by have:=R2.lt _ (R2.sub _ z);omega
  have up:∀{b:Nat}{o:O},h2[b]?=some o->(h2++[O.lst false (told.map λq=>V.int (q.1:Nat))])[b]?=some o:=λ{b o} e=>by rw[wC (qA e)];exact e
  have p2:PA h2 X a1 (qW told one):=⟨p1.1,(kp2 _ _ p1.1 p1.2).2⟩
  obtain⟨h3,x3',kvs3,e3,f3,R3,eD3,tr3,p3⟩:=qGL (fr:=.int (free:Nat)) (f:=f) (a:=a1) (l:=qW told one) W hD hA (by omega) hpX told [] kvs x3 (h2++[O.lst false (told.map λq=>V.int (q.1:Nat))]) (R2.up _) (up eD2) (by simpa [jo] using tr2.keep λb o z e=>⟨z,up e⟩) (by simpa using dk.nd) (by simp only[List.nil_append];have:lim=100000:=rfl;omega) ⟨p2.1,up p2.2⟩ hpA (by simp) rfl;have kl:kvs3.length<lim:=by
   have:=congrArg List.length tr3.keys;rw[wK,wK,show (jo f (qW told one) ([]++told)).length=told.length by unfold jo;rw[wK];rfl]at this;have:lim=100000:=rfl;omega
  have kp4:∀(o:O) b o',b∉X->h3[b]?=some o'->b∉X/\(h3.set D o)[b]?=some o':=λo b o' z e=>⟨z,by
   rw[wX (by rintro rfl;exact z hD)];exact e⟩
  have f12:Frm (A++[D]) h1 h3:=(f2.trans (Frm.app A h2 _)).more.trans f3;refine⟨h3.set D (.ob (.dct (QF kvs3 ((f:Nat):Int) (.ref a1)))),a1,_,?_,(f01.trans f12).set (.inl (by simp)) _,R3.setX hD hA _,wb (qA eD3),TR.put ⟨p3.1,(kp4 _ _ _ p3.1 p3.2).2⟩ (tr3.keep (kp4 _)),⟨p3.1,(kp4 _ _ _ p3.1 p3.2).2⟩⟩;refine s1 _ _ ?_;refine qEl (u8 (exx rfl rfl p1) ?_) ?_
  ·show some (!((((qW told one).1&&& free:Nat):Int)==0))=_;rw[show ((((qW told one).1&&& free:Nat):Int)==0)=false by rw[beq_eq_false_iff_ne];omega];rfl
  ·have ei:ev F (.idx (.call no (.cons (.bin .band (.idx (.var 2) (nE 0)) (.var 1)) .nil)) (nE 0)) [some (.ref D),some (.int (free:Nat)),some (.ref a1),x3,none] h1=.ok (.int (f:Nat),h2):=by
    show ((ev F (.call no (.cons (.bin .band (.idx (.var 2) (nE 0)) (.var 1)) .nil)) _ h1).bind _)=_;rw[qBD (exx rfl rfl p1) e2,tF];show (match items h2 r with|some xs=>_|none=>_)=_;rw[show items h2 r=some ((qZ ((qW told one).1&&& free)).map λn=>V.int (n:Nat)) by unfold items;rw[er],eb];show (match (ixN ((f::tl).map λn=>V.int (n:Nat)).length 0).bind (λj=>((f::tl).map λn=>V.int (n:Nat))[j]?) with|some v=>_|none=>_)=_;rw[show ixN ((f::tl).map λn=>V.int (n:Nat)).length 0=some 0 by simp[ixN,_L.ixN]];rfl
   have ek:kvs.map (λq=>V.int q.1)=told.map λq=>V.int (q.1:Nat):=by
    have:=congrArg (List.map V.int) tr2.keys;rw[vI,vI]at this;exact this
   have kl2:kvs.length<=lim:=by
    have:=congrArg List.length tr2.keys;rw[wK,wK]at this;have:lim=100000:=rfl;omega
   have ed:ev F (.dlst (.var 0)) [some (.ref D),some (.int (free:Nat)),some (.ref a1),x3,some (.int (f:Nat))] h2=.ok (.ref h2.length,h2++[O.lst false (told.map λq=>V.int (q.1:Nat))]):=by
    rw[ev];dsimp only;rw[v_ rfl,tF];show (match zU h2 D with|some kvs=>_|none=>_)=_;rw[show zU h2 D=some kvs by unfold zU;rw[eD2]];dsimp only;rw[if_pos kl2,ek];rfl
   have el:evi F (.list (.dlst (.var 0))) [some (.ref D),some (.int (free:Nat)),some (.ref a1),x3,some (.int (f:Nat))] h2=.ok (.list h2.length,h2++[O.lst false (told.map λq=>V.int (q.1:Nat))]):=by
    show ((ev F (.dlst (.var 0)) _ h2).bind _)=_;rw[ed,tF];dsimp only;rw[show (h2++[O.lst false (told.map λq=>V.int (q.1:Nat))])[h2.length]?=some (O.lst false (told.map λq=>V.int (q.1:Nat))) by simp]
   have sl:Jc (h2++[O.lst false (told.map λq=>V.int (q.1:Nat))]) (.list h2.length)=some told.length:=by
    show (qO _ _).map List.length=_;rw[qJ (f:=false) (vs:=told.map λq=>V.int (q.1:Nat)) (by simp)];simp
   have bd:exs F (.cons (.asg (.name 4) (.idx (.call no (.cons (.bin .band (.idx (.var 2) (nE 0)) (.var 1)) .nil)) (nE 0))) (.cons (.for_ (.name 3) (.list (.dlst (.var 0))) (B7 hm bs)) (.cons (.put (.var 0) (.var 4) (.var 2)) .nil))) [some (.ref D),some (.int (free:Nat)),some (.ref a1),x3,none] h1=.ok (.nx [some (.ref D),some (.int (free:Nat)),some (.ref a1),x3',some (.int (f:Nat))],h3.set D (.ob (.dct (QF kvs3 ((f:Nat):Int) (.ref a1))))):=by
    refine qBN ei ?_;show (((evi F (.list (.dlst (.var 0))) [some (.ref D),some (.int (free:Nat)),some (.ref a1),x3,some (.int (f:Nat))] h2).bind _).bind _)=_;rw[el,tF];dsimp only;rw[sl];show ((Jr (.list h2.length) (.name 3) (exs F (B7 hm bs)) told.length 0 [some (.ref D),some (.int (free:Nat)),some (.ref a1),x3,some (.int (f:Nat))] (h2++[O.lst false (told.map λq=>V.int (q.1:Nat))])).bind _)=_;rw[show Jr (.list h2.length) (.name 3) (exs F (B7 hm bs)) told.length 0 [some (.ref D),some (.int (free:Nat)),some (.ref a1),x3,some (.int (f:Nat))] (h2++[O.lst false (told.map λq=>V.int (q.1:Nat))])=_ from e3,tF];show ((ex F (.put (.var 0) (.var 4) (.var 2)) _ h3).bind _)=_;rw[qGI (v_ rfl) rfl rfl eD3 kl];rfl
   rw[bd];rfl
end
section
variable{gl:List T}{A X:List Nat}{M:Mem}{F:Nat->List V->AH->RV}
def PutOk(gl:List T)(A X:List Nat)(M:Mem)(F:Nat->List V->AH->RV)(pi D:Nat):Prop:=∀(told:List (Nat×NP)) (free:Nat) (kvs:List (Int×V)) (one:NP) (a:Nat) (h:AH),RelM gl A X h M->h[D]?=some (.ob (.dct kvs))->TR h X told kvs->DK told->told.length<2000->free<2 ^ 1000->PA h X a one ->
 ∃h' a' kvs',F pi [.ref D,.int (free:Nat),.ref a] h=.ok (.ref a',h')/\Frm (A++[D]) h h'/\RelM gl A X h' M/\h'[D]?=some (.ob (.dct kvs'))/\TR h' X (qu told free one).1 kvs'/\PA h' X a' (qu told free one).2
theorem PutOk.of{tb:List Fn}{j pi hm bs no D:Nat}(e:tb[pi]?=some ⟨3,5,qDj hm bs no⟩)(W:Hp3 gl A X M (Fk tb j) hm bs no)(hD:D∈X)(hA:D∉A):PutOk gl A X M (Fk tb (j+1)) pi D:=by
 intro told free kvs one a h R eD tr dk hl hf pa;obtain⟨h',a',kvs',e1,q⟩:=qFs W hD hA R eD tr dk hl hf pa;refine⟨h',a',kvs',?_,q⟩;show (match tb[pi]? with|some d=>_|none=>_)=_;rw[e];show (if _ then (exs (Fk tb j) (qDj hm bs no) [some (.ref D),some (.int (free:Nat)),some (.ref a),none,none] h).bind _ else _)=_;rw[if_pos ⟨rfl,by show 3<=5;decide⟩,e1];rfl
def RR(h:AH)(X:List Nat)(ps:List NP)(vs:List V):Prop:=jb (λ(q:NP) (v:V)=>∃a,v=.ref a/\PA h X a q) ps vs
theorem RR.keep{h h':AH}{X:List Nat}(kp:∀a o,a∉X->h[a]?=some o->a∉X/\h'[a]?=some o){ps:List NP}{vs:List V}(r:RR h X ps vs):RR h' X ps vs:=
 qx (λq p ⟨a,ea,p1,p2⟩=>⟨a,ea,(kp _ _ p1 p2).1,(kp _ _ p1 p2).2⟩) r
theorem qG2{pi D L S:Nat}{free:Nat}{fz:Bool}{vs:List V}{ps:List NP}{c s:Option V}(P:PutOk gl A X M F pi D)(hD:D∈X)(hA:D∉A)(hL:L∈X)(hLA:L∉A)(hDL:D≠L)(hS:S∉X)(hf:free<2 ^ 1000)(hn:ps.length<1000):∀(rest pre:List NP) (st:List (Nat×NP)×List NP) (kvs:List (Int×V)) (rs:List V) (x5 x6:Option V) (h:AH),ps=pre++rest->RelM gl A X h M->h[D]?=some (.ob (.dct kvs))->TR h X st.1 kvs->DK st.1->st.1.length<=pre.length->h[L]?=some (.lst false rs)->RR h X st.2 rs->st.2.length<=pre.length->h[S]?=some (.lst fz vs)->RR h X ps vs ->
  ∃h' x5' x6' kvs' rs',Jr (.list S) (.name 5) (exs F (O8 pi)) rest.length pre.length [c,s,some (.int (free:Nat)),some (.ref D),some (.ref L),x5,x6] h=.ok (.nx [c,s,some (.int (free:Nat)),some (.ref D),some (.ref L),x5',x6'],h')/\Frm (A++[D,L]) h h'/\RelM gl A X h' M/\h'[D]?=some (.ob (.dct kvs'))/\TR h' X (rest.foldl (zF free) st).1 kvs'/\h'[L]?=some (.lst false rs')/\RR h' X (rest.foldl (zF free) st).2 rs'
 | [],pre,st,kvs,rs,x5,x6,h,ep,R,eD,tr,dk,hl,eL,rr,hl2,eS,rS=>by
  refine⟨h,x5,x6,kvs,rs,?_,Frm.refl _ _,R,eD,tr,eL,rr⟩;show (if jF h pre.length (.list S) then _ else _)=_;have:vs.length=pre.length:=by rw[<-qG rS,ep,wd]
  rw[if_pos (by show (match qO h S with|some xs=>_|none=>_)=_;rw[qJ eS];simp[this])]
 |q::rest,pre,st,kvs,rs,x5,x6,h,ep,R,eD,tr,dk,hl,eL,rr,hl2,eS,rS=>by
  have hp:pre.length+(rest.length+1)<1000:=by rw[ep]at hn;simpa using hn
  obtain⟨v,ev0,a,rfl,pa⟩:=zT (i:=pre.length) (x:=q) rS (by rw[ep];simp);obtain⟨h1,a1,kvs1,e1,f1,R1,eD1,tr1,p1⟩:=P st.1 free kvs q a h R eD tr dk (by omega) hf pa;have kp1:∀b o,b∉X->h[b]?=some o->b∉X/\h1[b]?=some o:=kpD hD hA R f1;have eL1:h1[L]?=some (.lst false rs):=by rw[f1.2 L (qA eL) (by simp[hLA,Ne.symm hDL])];exact eL
  have dk1:=dk.next (one:=q) hf;have wide:∀{h h':AH},Frm (A++[D]) h h'->Frm (A++[D,L]) h h':=λf=>⟨f.1,λj hj hA=>f.2 j hj λz=>hA (by simp at z ⊢;rcases z with z|z;exact .inl z;exact .inr (.inl z))⟩
  have run:∃h2 rs2,exs F (O8 pi) [c,s,some (.int (free:Nat)),some (.ref D),some (.ref L),some (.ref a),x6] h=.ok (.nx [c,s,some (.int (free:Nat)),some (.ref D),some (.ref L),some (.ref a),some (.ref a1)],h2)/\Frm (A++[D,L]) h h2/\RelM gl A X h2 M/\h2[D]?=some (.ob (.dct kvs1))/\TR h2 X (zF free st q).1 kvs1/\h2[L]?=some (.lst false rs2)/\RR h2 X (zF free st q).2 rs2/\∀b o,b∉X->h1[b]?=some o->b∉X/\h2[b]?=some o:=by
   have eb:ev F (.bin .band (.idx (.var 6) (nE 0)) (.var 2)) [c,s,some (.int (free:Nat)),some (.ref D),some (.ref L),some (.ref a),some (.ref a1)] h1=.ok (.int (((qu st.1 free q).2.1&&& free:Nat):Int),h1):=qC7 (qEh (v_ rfl) p1.2) rfl;by_cases hx:(qu st.1 free q).2.1&&& free=0
   ·have kp3:∀b o,b∉X->h1[b]?=some o->b∉X/\(h1.set L (.lst false (rs++[.ref a1])))[b]?=some o:=λb o z e=>⟨z,by
     rw[wX (by rintro rfl;exact z hL)];exact e⟩
    have st2:(zF free st q).2=st.2++[(qu st.1 free q).2]:=by unfold zF;dsimp only;rw[if_pos hx]
    have rl:rs.length<lim:=by
     have:=qG rr;have:lim=100000:=rfl;omega
    refine⟨h1.set L (.lst false (rs++[.ref a1])),rs++[.ref a1],?_,(wide f1).set (.inl (by simp)) _,R1.setX hL hLA _,by rw[wX (Ne.symm hDL)];exact eD1,tr1.keep kp3,wb (qA eL1),?_,kp3⟩
    ·refine qBN (qAm rfl rfl rfl e1) ?_;refine qEl (u8 eb (by rw[hx];rfl)) ?_;have ea:ev F (.app (.var 4) (.var 6)) [c,s,some (.int (free:Nat)),some (.ref D),some (.ref L),some (.ref a),some (.ref a1)] h1=.ok (.non,h1.set L (.lst false (rs++[.ref a1]))):=by
      rw[ev];dsimp only;rw[v_ (v:=.ref L) rfl,tF];show (match qO h1 L with|some _=>_|none=>_)=_;rw[qJ eL1];show ((ev F (.var 6) _ h1).bind _)=_;rw[v_ (v:=.ref a1) rfl,tF];show (match qz h1 L with|some xs=>_|none=>_)=_;rw[show qz h1 L=some rs by unfold qz;rw[eL1]];dsimp only;rw[if_pos rl]
     show (((((ev F (.app (.var 4) (.var 6)) [c,s,some (.int (free:Nat)),some (.ref D),some (.ref L),some (.ref a),some (.ref a1)] h1).bind _).bind _).bind _))=_;rw[ea];rfl
    ·rw[st2];exact zQ (rr.keep λb o z e=>kp3 b o z (kp1 b o z e).2) ⟨_,[],rfl,⟨a1,rfl,p1.1,(kp3 _ _ p1.1 p1.2).2⟩,rfl⟩
   ·have st2:(zF free st q).2=st.2:=by unfold zF;dsimp only;rw[if_neg hx]
    refine⟨h1,rs,?_,wide f1,R1,eD1,tr1,eL1,by rw[st2];exact rr.keep kp1,λb o z e=>⟨z,e⟩⟩;refine qBN (qAm rfl rfl rfl e1) ?_;refine qEX (u8 eb ?_) rfl;show some ((((qu st.1 free q).2.1&&& free:Nat):Int)==0)=_;rw[show ((((qu st.1 free q).2.1&&& free:Nat):Int)==0)=false by rw[beq_eq_false_iff_ne];omega]
  obtain⟨h2,rs2,e2,f2,R2,eD2,tr2,eL2,rr2,kp2⟩:=run;have kp:∀b o,b∉X->h[b]?=some o->b∉X/\h2[b]?=some o:=λb o z e=>kp2 b o z (kp1 b o z e).2;have l2:(zF free st q).2.length<=pre.length+1:=by
   unfold zF;dsimp only;split
   ·rw[wV];simp;omega
   ·omega
  obtain⟨h',x5',x6',kvs',rs',e3,q3⟩:=qG2 P hD hA hL hLA hDL hS hf hn rest (pre++[q]) (zF free st q) kvs1 rs2 (some (.ref a)) (some (.ref a1)) h2 (by simpa using ep) R2 eD2 tr2 dk1.1 (by have:=dk1.2;rw[wV];simp;exact wS this (by omega)) eL2 rr2 (by simpa using l2) (kp _ _ hS eS).2 (rS.keep kp);refine⟨h',x5',x6',kvs',rs',?_,f2.trans q3.1,q3.2⟩;rw[List.length_cons];show (match qi h pre.length (.list S) with|some (x,h1)=>_|none=>_)=_;rw[show qi h pre.length (.list S)=some (.ref a,h) by
   show (match qO h S with|some xs=>_|none=>_)=_;rw[qJ eS];show (vs[pre.length]?).map _=_;rw[ev0];rfl]
  show ((exs F (O8 pi) [c,s,some (.int (free:Nat)),some (.ref D),some (.ref L),some (.ref a),x6] h).bind _)=_;rw[e2];have:(pre++[q]).length=pre.length+1:=by simp
  rw[this]at e3;exact e3
end
section
variable{gl:List T}{tb:List Fn}{Cs:List (List Nat)}{A X:List Nat}{M:Mem}{h:AH}
theorem qAl{q:NP}{w:V}(r:Rep A X h (pT q) w):∃a,w=.ref a/\PA h X a q:=by
 unfold pT Rep at r;obtain⟨a,vs,e,q1,q2,q3⟩:=r;obtain⟨x,y,rfl,r1,r2⟩:=y7 q3;unfold nmT at r1 r2;cases zI r1;cases zI r2;exact⟨a,e,q1,q2⟩
theorem Qt(n:Nat):Rep A X h (nmT n) (.int (n:Nat)):=by unfold nmT Rep;exact⟨rfl,rfl⟩
theorem K4{q:NP}{a:Nat}(p:PA h X a q):Rep A X h (pT q) (.ref a):=by
 unfold pT Rep;refine⟨a,_,rfl,p.1,p.2,?_⟩;unfold qM;refine⟨_,_,rfl,Qt _,?_⟩;unfold qM;exact⟨_,_,rfl,Qt _,by unfold qM;rfl⟩
theorem qo{t:T}{ts:List T}{v:V}{vs:List V}(r:Rep A X h t v)(rs:qM A X h ts vs):qM A X h (t::ts) (v::vs):=by unfold qM;exact⟨v,vs,rfl,r,rs⟩
theorem zr:qM A X h [] []:=by unfold qM;rfl
theorem JR:∀{L:List Nat}{vs:List V},qM A X h (L.map nmT) vs->vs=L.map λn=>V.int (n:Nat)
 | [],vs,r=>by unfold qM at r;exact r
 |n::L,vs,r=>by
  rw[List.map_cons]at r;unfold qM at r;obtain⟨v,vs',rfl,r1,r2⟩:=r;unfold nmT at r1;cases zI r1;rw[JR r2];rfl
theorem M9{t:T}{q:NP}(e:jE t=some q):t=pT q:=by
 unfold jE at e;split at e
 ·rename_i ts;have:∀{ts:List T}{L:List Nat},qj ts=some L->ts=L.map nmT:=by
   intro ts
   induction ts with
   |nil=>intro L e;cases e;rfl
   |cons t ts ih=>
    intro L e;unfold qj at e;split at e
    ·rename_i e1;cases e1
    ·rename_i i r e1;injection e1 with e1 e2;subst e1 e2;split at e
     ·rename_i hi;obtain⟨L',e',rfl⟩:=wA.mp e;rw[ih e',List.map_cons];congr 1;unfold nmT;rw[Int.toNat_of_nonneg hi]
     ·cases e
    ·cases e
  split at e
  ·rename_i a b ea;cases e;rw[this ea];rfl
  ·cases e
 ·cases e
structure Z9(gl:List T)(tb:List Fn)(Cs:List (List Nat))(so pi hm bs no mk:Nat):Prop where
 eso:tb[so]?=some ⟨2,7,.cons .orc (qCi mk pi)⟩
 epi:tb[pi]?=some ⟨3,5,qDj hm bs no⟩
 only:∀(f:Nat) d,tb[f]?=some d->ZZ d.body=true->f=so
 phm:∀(j:Nat) (M:Mem) (m n:Nat),3<=j->n<=1000->Pk gl tb Cs j hm [nmT m,nmT n] M=.ok (bT (m.testBit n),M)
 pbs:∀(j:Nat) (M:Mem) (p q:NP),3<=j->∃fl,Pk gl tb Cs j bs [pT p,pT q] M=.ok ((pT (both p q),fl),M)
 pno:∀(j:Nat) (M:Mem) (m:Nat),3<=j->m<2 ^ 1000->∃fl,Pk gl tb Cs j no [nmT m] M=.ok ((.lst ((qZ m).map nmT),fl),M)
 pmk:∀(j:Nat) (M:Mem) (t:T) (L:List Nat),3<=j->(t.lis M).bind qj=some L->(∀n∈L,n<1000)->L.length<1000->∃fl,Pk gl tb Cs j mk [t] M=.ok ((nmT (qK L),fl),M)
theorem Hp3.of{so pi hm bs no mk j:Nat}(S:Z9 gl tb Cs so pi hm bs no mk)(ih:l4 gl tb Cs j)(hj:3<=j):Hp3 gl A X M (Fk tb j) hm bs no where
 hm:=λh m n R hn=>by
  have s:=ih hm [nmT m,nmT n] [.int (m:Nat),.int (n:Nat)] A X h M R (qo (Qt m) (qo (Qt n) zr));rw[S.phm j M m n hj hn]at s;obtain⟨y,h',e,f,R',q⟩:=s;cases zI (show Rep A X h' (.v (.bl _)) y from q.1);exact⟨h',e,f,R'⟩
 bs:=λh a b p q R pa pb=>by
  have s:=ih bs [pT p,pT q] [.ref a,.ref b] A X h M R (qo (K4 pa) (qo (K4 pb) zr));obtain⟨fl,e0⟩:=S.pbs j M p q hj;rw[e0]at s;obtain⟨y,h',e,f,R',q⟩:=s;obtain⟨r,rfl,pr⟩:=qAl q.1;exact⟨h',r,e,f,R',pr⟩
 no:=λh m R hm'=>by
  have s:=ih no [nmT m] [.int (m:Nat)] A X h M R (qo (Qt m) zr);obtain⟨fl,e0⟩:=S.pno j M m hj hm';rw[e0]at s;obtain⟨y,h',e,f,R',q⟩:=s;have r:Rep A X h' (.lst ((qZ m).map nmT)) y:=q.1;unfold Rep at r;obtain⟨r,vs,rfl,_,q2,q3⟩:=r;refine⟨h',r,e,f,R',false,?_⟩;rw[q2,JR q3]
theorem qCR{t:T}{xs:List T}{w:V}(e:t.lst0=some xs)(r:Rep A X h t w):∃a fz vs,w=.ref a/\a∉X/\h[a]?=some (.lst fz vs)/\qM A X h xs vs:=by
 cases t with
 |lst ts=>cases e;unfold Rep at r;obtain⟨a,vs,e,q1,q2,q3⟩:=r;exact⟨a,false,vs,e,q1,q2,q3⟩
 |fz ts=>cases e;unfold Rep at r;obtain⟨a,vs,e,q1,q2,q3⟩:=r;exact⟨a,true,vs,e,q1,q2,q3⟩
 |_=>cases e
theorem qDR:∀{xs:List T}{ps:List NP}{vs:List V},xs.mapM jE=some ps->qM A X h xs vs->RR h X ps vs
 | [],ps,vs,e,r=>by cases e;unfold qM at r;subst r;rfl
 |x::xs,ps,vs,e,r=>by
  rw[vn]at e;obtain⟨q,e1,e2⟩:=wI.mp e;obtain⟨qs,e3,e4⟩:=wI.mp e2;cases e4;unfold qM at r;obtain⟨v,vs',rfl,r1,r2⟩:=r;rw[M9 e1]at r1;exact⟨v,vs',rfl,qAl r1,qDR e3 r2⟩
theorem T7:∀{ps:List NP}{vs:List V},RR h X ps vs->qM A X h (ps.map pT) vs
 | [],vs,r=>by cases r;exact zr
 |q::ps,_,⟨v,vs,rfl,⟨a,ea,pa⟩,r⟩=>by rw[ea];exact qo (K4 pa) (T7 r)
theorem i9:∀{told:List (Nat×NP)}{kvs:List (Int×V)},TR h X told kvs->qM A X h (told.map λq=>pT q.2) (kvs.map (·.2))/\kvs=(told.map λq=>((q.1:Nat):Int)).zip (kvs.map (·.2))
 | [],_,r=>by cases r;exact⟨zr,rfl⟩
 |q::told,_,⟨p,kvs,rfl,⟨e,a,ea,pa⟩,r⟩=>by
  obtain⟨r1,r2⟩:=i9 (told:=told) r;refine⟨?_,?_⟩
  ·rw[List.map_cons,List.map_cons,ea];exact qo (K4 pa) r1
  ·rw[List.map_cons,List.map_cons,List.zip_cons_cons,<-r2,<-e]
theorem qAO{told:List (Nat×NP)}{kvs:List (Int×V)}{D:Nat}(hD:D∉X)(eD:h[D]?=some (.ob (.dct kvs)))(r:TR h X told kvs):Rep A X h (Q0 told) (.ref D):=by
 unfold Q0;cases told with
 |nil=>
  cases r;show Rep A X h (.ob (.dct [])) (.ref D);unfold Rep;exact⟨D,rfl,hD,eD,rfl⟩
 |cons q told=>
  rw[if_neg (by simp)];obtain⟨r1,r2⟩:=i9 (A:=A) r;have l1:=congrArg List.length r.keys;rw[wK,wK]at l1;unfold Rep;refine⟨D,kvs.map (·.2),rfl,hD,by rw[<-r2];exact eD,⟨by simp[l1],?_⟩,r1⟩;obtain⟨p,kvs',rfl,⟨_,a,ea,_⟩,_⟩:=r;rw[List.map_cons,List.any_cons,ea];rfl
theorem qFE{X':List Nat}{h:AH}(hX:∀a∈X,a∈X'){told:List (Nat×NP)}{kvs:List (Int×V)}(r:TR h X' told kvs):TR h X told kvs:=
 qx (λq p ⟨e,a,ea,p1,p2⟩=>⟨e,a,ea,λz=>p1 (hX _ z),p2⟩) r
theorem qFV{X':List Nat}{h:AH}(hX:∀a∈X,a∈X'){ps:List NP}{vs:List V}(r:RR h X' ps vs):RR h X ps vs:=
 qx (λq p ⟨a,ea,p1,p2⟩=>⟨a,ea,λz=>p1 (hX _ z),p2⟩) r
theorem qFC{so pi hm bs no mk:Nat}(S:Z9 gl tb Cs so pi hm bs no mk):OrcOk gl tb Cs:=by
 intro k f d hk ed ho ih ts ws A X h M R rs;obtain rfl:=S.only f d ed ho;rw[S.eso]at ed;cases ed;unfold qD6;split
 ·rename_i code sums;refine tJ λfr efr=>tJ λps eps=>?_;split
  ·rename_i hc;obtain⟨hfr,hmk,hps,hfl⟩:=hc;obtain⟨xs,e1,e2⟩:=wI.mp efr;obtain⟨t,e3,e4⟩:=wI.mp e2;obtain⟨ss,e5,e6⟩:=wI.mp eps;obtain⟨wc,wsu,rfl,rc,rsu⟩:=y7 rs;obtain⟨c,cvs,rfl,ic,rxs⟩:=JW R rc e1;obtain⟨wt,et,rt⟩:=zT (reps_iff.mp rxs) e3;have es:ev (Fk tb k) (.idx (.var 0) (nE 1)) [some (.ref c),some wsu,none,none,none,none,none] h=.ok (wt,h):=by
    rw[ev];dsimp only;rw[v_ (v:=.ref c) rfl,tF];show (match items h c with|some xs=>_|none=>_)=_;rw[ic];dsimp only;have hl:1<cvs.length:=(wB.mp et).1;rw[show ixN cvs.length ((1:Nat):Int)=some 1 by unfold ixN _L.ixN;rw[if_pos (by decide),if_pos (by omega)];rfl];show (match cvs[1]? with|some v=>_|none=>_)=_;rw[et]
   have sm:=ih k (wM k) mk [t] [wt] A X h M R (qo rt zr);obtain⟨fl,em⟩:=S.pmk k M t fr (by omega) e4 (λn hn=>by rw[List.all_eq_true]at hfr;simpa using hfr n hn) hfl;rw[em]at sm;obtain⟨y,h1,ey,f1,R1,qy⟩:=sm;cases zI (show Rep A X h1 (.v (.int _)) y from qy.1);generalize hDD:h1.length=D;have R2:RelM gl A (X++[D]) (h1++[O.ob (.dct [])]) M:=R1.addX λa=>by rw[wF,wP,hDD];exact Or.comm
   have hL2:(h1++[O.ob (.dct [])]).length=D+1:=by simp[hDD]
   have R3:RelM gl A (X++[D]++[D+1]) (h1++[O.ob (.dct [])]++[O.lst false []]) M:=R2.addX λa=>by rw[wF,wP,hL2];exact Or.comm
   have hDX:D∉X:=λz=>by have:=R1.lt _ z;omega
   have hLX:D+1∉X:=λz=>by have:=R1.lt _ z;omega
   have hDA:D∉A:=λz=>hDX (R1.sub _ z);have hLA:D+1∉A:=λz=>hLX (R1.sub _ z);have hX3:∀a∈X,a∈X++[D]++[D+1]:=λa ha=>wN _ (wN _ ha);have k1:=R.keepN f1;have kp3:∀b o,b∉X->h[b]?=some o->b∉X++[D]++[D+1]/\(h1++[O.ob (.dct [])]++[O.lst false []])[b]?=some o:=λb o z e=>by
    have e':=(k1 b o z e).2;have lb:=qA e';refine⟨by simp only[wF,wP,not_or];exact⟨⟨z,by omega⟩,by omega⟩,?_⟩;rw[wm,wC lb];exact e'
   obtain⟨sa,fz,svs,rfl,hsX,hsa,rss⟩:=qCR e5 rsu;have rS:RR h X ps svs:=qDR e6 rss;have rS3:RR (h1++[O.ob (.dct [])]++[O.lst false []]) (X++[D]++[D+1]) ps svs:=qx (λq p ⟨a,ea,p1,p2⟩=>⟨a,ea,(kp3 _ _ p1 p2).1,(kp3 _ _ p1 p2).2⟩) rS;obtain⟨j,rfl⟩:∃j,k=j+1:=⟨k-1,by omega⟩
   have P:PutOk gl A (X++[D]++[D+1]) M (Fk tb (j+1)) pi D:=PutOk.of S.epi (Hp3.of S (ih j (by omega)) (by omega)) (by simp) hDA;obtain⟨h4,x5,x6,kvs,rvs,eL,f4,R4,eD4,tr4,eL4,rr4⟩:=qG2 (fz:=fz) (vs:=svs) (ps:=ps) (c:=some (.ref c)) (s:=some (.ref sa)) P (by simp) hDA (L:=D+1) (by simp) hLA (by omega) (kp3 _ _ hsX hsa).1 hmk hps ps [] ([],[]) [] [] none none (h1++[O.ob (.dct [])]++[O.lst false []]) rfl R3 (by rw[<-hDD];simp) rfl ⟨by simp,λq hq=>by cases hq⟩ (by simp) (by rw[<-hDD];simp) rfl (by simp) (kp3 _ _ hsX hsa).2 rS3;have run:Fk tb (j+1+1) f [.ref c,.ref sa] h=.ok (.ref h4.length,h4++[.tup [.ref D,.ref (D+1)]]):=by
    show (match tb[f]? with|some d=>_|none=>_)=_;rw[S.eso];show (if _ then (exs (Fk tb (j+1)) (.cons .orc (qCi mk pi)) [some (.ref c),some (.ref sa),none,none,none,none,none] h).bind _ else _)=_;rw[if_pos ⟨rfl,by show 2<=7;decide⟩];have bd:exs (Fk tb (j+1)) (qCi mk pi) [some (.ref c),some (.ref sa),none,none,none,none,none] h=.ok (.rt (.ref h4.length),h4++[.tup [.ref D,.ref (D+1)]]):=by
     have e3:ev (Fk tb (j+1)) .dnew [some (.ref c),some (.ref sa),some (.int (qK fr:Nat)),none,none,none,none] h1=.ok (.ref D,h1++[O.ob (.dct [])]):=by
      show Res.ok (V.ref h1.length,h1++[O.ob (.dct [])])=_;rw[hDD]
     have e4':ev (Fk tb (j+1)) (.lst .nil) [some (.ref c),some (.ref sa),some (.int (qK fr:Nat)),some (.ref D),none,none,none] (h1++[O.ob (.dct [])])=.ok (.ref (D+1),h1++[O.ob (.dct [])]++[O.lst false []]):=by
      rw[ev];show Res.ok (V.ref (h1++[O.ob (.dct [])]).length,h1++[O.ob (.dct [])]++[O.lst false []])=_;rw[hL2]
     have hS3:=(kp3 _ _ hsX hsa).2;have e5':evi (Fk tb (j+1)) (.list (.var 1)) [some (.ref c),some (.ref sa),some (.int (qK fr:Nat)),some (.ref D),some (.ref (D+1)),none,none] (h1++[O.ob (.dct [])]++[O.lst false []])=.ok (.list sa,h1++[O.ob (.dct [])]++[O.lst false []]):=by
      rw[evi];dsimp only;rw[v_ (v:=.ref sa) rfl,tF];dsimp only;rw[hS3]
     have e6':Jc (h1++[O.ob (.dct [])]++[O.lst false []]) (.list sa)=some ps.length:=by
      show (qO _ _).map List.length=_;rw[qJ hS3,qG rS];rfl
     refine qBN (qBD es ey) (qBN e3 (qBN e4' ?_));show (((evi (Fk tb (j+1)) (.list (.var 1)) [some (.ref c),some (.ref sa),some (.int (qK fr:Nat)),some (.ref D),some (.ref (D+1)),none,none] (h1++[O.ob (.dct [])]++[O.lst false []])).bind _).bind _)=_;rw[e5',tF];dsimp only;rw[e6'];show ((Jr (.list sa) (.name 5) (exs (Fk tb (j+1)) (O8 pi)) ps.length 0 [some (.ref c),some (.ref sa),some (.int (qK fr:Nat)),some (.ref D),some (.ref (D+1)),none,none] (h1++[O.ob (.dct [])]++[O.lst false []])).bind _)=_;rw[show Jr (.list sa) (.name 5) (exs (Fk tb (j+1)) (O8 pi)) ps.length 0 [some (.ref c),some (.ref sa),some (.int (qK fr:Nat)),some (.ref D),some (.ref (D+1)),none,none] (h1++[O.ob (.dct [])]++[O.lst false []])=_ from eL,tF];rfl
    show ((exs (Fk tb (j+1)) (qCi mk pi) [some (.ref c),some (.ref sa),none,none,none,none,none] h).bind _)=_;rw[bd];rfl
   have q4:h4.length∉X:=λz=>by
    have:=R4.lt _ (hX3 _ z);omega
   have up:∀b o,b∉X++[D]++[D+1]->h4[b]?=some o->b∉X/\(h4++[O.tup [.ref D,.ref (D+1)]])[b]?=some o:=λb o z e=>⟨λy=>z (hX3 _ y),by rw[wC (qA e)];exact e⟩
   have upD:(h4++[O.tup [.ref D,.ref (D+1)]])[D]?=some (.ob (.dct kvs)):=by rw[wC (qA eD4)];exact eD4
   have upL:(h4++[O.tup [.ref D,.ref (D+1)]])[D+1]?=some (.lst false rvs):=by rw[wC (qA eL4)];exact eL4
   refine⟨_,_,run,?_,(R4.weak hX3 R.sub).up _,?_,λz=>by cases z⟩
   ·have g:Frm A h (h1++[O.ob (.dct [])]++[O.lst false []]):=(f1.trans (Frm.app A h1 _)).trans (Frm.app A _ _);have hl1:h.length<=D:=by rw[<-hDD];exact f1.1
    exact(g.trans2 (B:=[D,D+1]) (λb hb=>by simp at hb;omega) f4).trans (Frm.app A h4 _)
   ·unfold Rep;refine⟨h4.length,[.ref D,.ref (D+1)],rfl,q4,by simp,qo ?_ (qo ?_ zr)⟩
    ·exact qAO hDX upD (qFE hX3 (qx (λq p ⟨e,a,ea,p1,p2⟩=>⟨e,a,ea,p1,by rw[wC (qA p2)];exact p2⟩) tr4))
    ·unfold Rep;exact⟨D+1,rvs,rfl,hLX,upL,T7 (qFV hX3 (qx (λq p ⟨a,ea,p1,p2⟩=>⟨a,ea,p1,by rw[wC (qA p2)];exact p2⟩) rr4))⟩
  ·exact Sim.stuck
 ·exact Sim.stuck
end
end _P
namespace Ft
theorem n6{x y a b p q r s X Y A B:Nat}(hx:2*X+p=x)(hy:2*Y+q=y)(ha:2*A+r=a)(hb:2*B+s=b)(i:X+2*Y=A+B)(j:p+2*q=r+s):x+2*y=a+b:=by
 subst hx hy ha hb;omega
theorem xor_and(a:Nat):∀b:Nat,(a ^^^ b)+2*(a&&& b)=a+b:=by
 induction a using Nat.strongRecOn with
 |_ a ih=>
  intro b;by_cases h:a=0
  ·subst h;simp
  ·have i:=ih (a / 2) (Nat.div_lt_self (Nat.pos_of_ne_zero h) (by decide)) (b / 2);rw[<-Nat.xor_div_two,<-Nat.and_div_two]at i;have e1:=Nat.xor_mod_two_pow (a:=a) (b:=b) (n:=1);have e2:=Nat.and_mod_two_pow (a:=a) (b:=b) (n:=1);rw[Nat.pow_one]at e1 e2;refine n6 (uC (a ^^^ b) 2) (uC (a&&& b) 2) (uC a 2) (uC b 2) i ?_;rw[e1,e2];rcases vY a with h1|h1<;>rcases vY b with h2|h2<;>rw[h1,h2]<;>rfl
open _P
noncomputable def qF(x:Nat->Bool)(v:Nat)(b:Bool):Nat->Bool:=λu=>if u=v then b else x u
theorem qS(x:Nat->Bool)(v:Nat)(b:Bool):qF x v b v=b:=if_pos rfl
theorem ql{x:Nat->Bool}{v u:Nat}{b:Bool}(h:u≠v):qF x v b u=x u:=if_neg h
theorem T4{x:Nat->Bool}{u v:Nat}{a b:Bool}(h:u≠v):qF (qF x u a) v b=qF (qF x v b) u a:=by
 funext w
 unfold qF;by_cases h1:w=v
 ·by_cases h2:w=u
  ·exact absurd (h2.symm.trans h1) h
  ·rw[if_pos h1,if_neg h2,if_pos h1]
 ·rw[if_neg h1];by_cases h2:w=u
  ·rw[if_pos h2,if_pos h2]
  ·rw[if_neg h2,if_neg h2,if_neg h1]
noncomputable def zh:List Nat->((Nat->Bool)->Bool)->Nat
 | [],P=>(P λ_=>false).toNat
 |v::V,P=>zh V (λx=>P (qF x v false))+zh V (λx=>P (qF x v true))
theorem cnt_add{A B Q:(Nat->Bool)->Bool}(h:∀x,(A x).toNat+(B x).toNat=(Q x).toNat)(V:List Nat):zh V A+zh V B=zh V Q:=by
 induction V generalizing A B Q with
 |nil=>exact h _
 |cons v V ih=>
  have h1:=ih (A:=λx=>A (qF x v false)) (B:=λx=>B (qF x v false)) (Q:=λx=>Q (qF x v false)) λx=>h _;have h2:=ih (A:=λx=>A (qF x v true)) (B:=λx=>B (qF x v true)) (Q:=λx=>Q (qF x v true)) λx=>h _;unfold zh;omega
theorem cnt_congr{A B:(Nat->Bool)->Bool}(h:∀x,A x=B x)(V:List Nat):zh V A=zh V B:=by rw[funext h]
theorem v5(a b:Nat)(V:List Nat)(P:(Nat->Bool)->Bool):zh (a::b::V) P=zh (b::a::V) P:=by
 by_cases h:a=b
 ·subst h;rfl
 ·have c:∀α β,(λx=>P (qF (qF x b β) a α))=λx=>P (qF (qF x a α) b β):=λα β=>by
   funext x;rw[T4 (Ne.symm h)]
  show (zh V (λx=>P (qF (qF x b false) a false))+zh V (λx=>P (qF (qF x b true) a false)))+(zh V (λx=>P (qF (qF x b false) a true))+zh V (λx=>P (qF (qF x b true) a true)))=(zh V (λx=>P (qF (qF x a false) b false))+zh V (λx=>P (qF (qF x a true) b false)))+(zh V (λx=>P (qF (qF x a false) b true))+zh V (λx=>P (qF (qF x a true) b true)));rw[c,c,c,c];omega
theorem r6{V V':List Nat}(h:V.Perm V'):∀P,zh V P=zh V' P:=by
 induction h with
 |nil=>intro P;rfl
 |cons v _ ih=>intro P;unfold zh;rw[ih,ih]
 |swap a b V=>intro P;exact v5 _ _ _ _
 |trans _ _ i1 i2=>intro P;rw[i1,i2]
theorem S0{f P Q:(Nat->Bool)->Bool}{v:Nat}(hf:∀x,f (qF x v true)=!f (qF x v false))(h:∀x b,P (qF x v b)=(!f (qF x v b)&&Q x))(V:List Nat):zh (v::V) P=zh V Q:=by
 refine cnt_add (λx=>?_) V;rw[h,h,hf];cases f (qF x v false)<;>cases Q x<;>rfl
theorem qBc{P Q:(Nat->Bool)->Bool}{v:Nat}(h:∀x b,P (qF x v b)=Q x)(V:List Nat):zh (v::V) P=2*zh V Q:=by
 show zh V (λx=>P (qF x v false))+zh V (λx=>P (qF x v true))=_;rw[cnt_congr (λx=>h x false),cnt_congr (λx=>h x true)];omega
theorem G7:∀V:List Nat,zh V (λ_=>true)=2 ^ V.length
 | []=>rfl
 |v::V=>by
  unfold zh;rw[G7 V,List.length_cons,Nat.pow_succ];omega
theorem Jn:∀V:List Nat,zh V (λ_=>false)=0
 | []=>rfl
 |v::V=>by
  unfold zh;rw[Jn V]
noncomputable def xl(L:List Nat)(f:Nat->Bool):Bool:=L.foldr (λp b=>f p ^^ b) false
theorem xl_cons(p:Nat)(L:List Nat)(f:Nat->Bool):xl (p::L) f=(f p ^^ xl L f):=rfl
theorem xl_xor(f g:Nat->Bool):∀L:List Nat,xl L (λp=>f p ^^ g p)=(xl L f ^^ xl L g)
 | []=>rfl
 |p::L=>by
  rw[xl_cons,xl_cons,xl_cons,xl_xor f g L];cases f p<;>cases g p<;>cases xl L f<;>cases xl L g<;>rfl
theorem xl_congr{f g:Nat->Bool}:∀{L:List Nat},(∀p∈L,f p=g p)->xl L f=xl L g
 | [],_=>rfl
 |p::L,h=>by rw[xl_cons,xl_cons,h p (by simp),xl_congr λq hq=>h q (by simp[hq])]
theorem xl_none{f:Nat->Bool}{L:List Nat}(h:∀p∈L,f p=false):xl L f=false:=by
 rw[xl_congr (g:=λ_=>false) h]
 induction L with
 |nil=>rfl
 |cons p L ih=>rw[xl_cons,ih λq hq=>h q (by simp[hq])];rfl
theorem xl_filter(q f:Nat->Bool):∀L:List Nat,xl (L.filter q) f=xl L λp=>q p&&f p
 | []=>rfl
 |p::L=>by
  rw[List.filter_cons];cases h:q p
  ·rw[if_neg (by decide),xl_filter q f L,xl_cons,h];simp
  ·rw[if_pos rfl,xl_cons,xl_filter q f L,xl_cons,h];simp
theorem xl_perm{L L':List Nat}(h:L.Perm L')(f:Nat->Bool):xl L f=xl L' f:=by
 induction h with
 |nil=>rfl
 |cons v _ ih=>rw[xl_cons,xl_cons,ih]
 |swap a b V=>rw[xl_cons,xl_cons,xl_cons,xl_cons];cases f a<;>cases f b<;>cases xl V f<;>rfl
 |trans _ _ i1 i2=>rw[i1,i2]
theorem xl_flip{L:List Nat}(nd:L.Nodup){v:Nat}(hv:v∈L){f g:Nat->Bool}(h1:g v=!f v)(h2:∀p∈L,p≠v->g p=f p):xl L g=!xl L f:=by
 induction L with
 |nil=>cases hv
 |cons p L ih=>
  rw[xl_cons,xl_cons];rw[wf]at nd;by_cases e:p=v
  ·subst e;rw[h1,xl_congr (f:=g) (g:=f) λq hq=>h2 q (by simp[hq]) λz=>nd.1 (z ▸ hq)];cases f p<;>cases xl L f<;>rfl
  ·have hv':v∈L:=by rcases wJ.mp hv with z|z;exact absurd z.symm e;exact z
   rw[h2 p (by simp) e,ih nd.2 hv' λq hq z=>h2 q (by simp[hq]) z];cases f p<;>cases xl L f<;>rfl
noncomputable def zH(n:Nat)(κ c:Nat->Bool)(l:NP):Bool:=xl (List.range n) (λp=>l.1.testBit p&&κ p) ^^ xl (List.range n) (λt=>l.2.testBit t&&c t)
theorem B0(L:List Nat)(a b:Nat)(f:Nat->Bool):xl L (λp=>(a ^^^ b).testBit p&&f p)=(xl L (λp=>a.testBit p&&f p) ^^ xl L λp=>b.testBit p&&f p):=by
 rw[<-xl_xor];exact xl_congr λp _=>by rw[vE];cases a.testBit p<;>cases b.testBit p<;>cases f p<;>rfl
theorem u6(n:Nat)(κ c:Nat->Bool)(a b:NP):zH n κ c (both a b)=(zH n κ c a ^^ zH n κ c b):=by
 show (xl (List.range n) (λp=>(a.1 ^^^ b.1).testBit p&&κ p) ^^ xl (List.range n) (λt=>(a.2 ^^^ b.2).testBit t&&c t))=_;rw[B0,B0];unfold zH;generalize xl (List.range n) (λp=>a.1.testBit p&&κ p)=w1;generalize xl (List.range n) (λp=>b.1.testBit p&&κ p)=w2;generalize xl (List.range n) (λp=>a.2.testBit p&&c p)=w3;generalize xl (List.range n) (λp=>b.2.testBit p&&c p)=w4;cases w1<;>cases w2<;>cases w3<;>cases w4<;>rfl
theorem JM{k:Nat}:∀{told:List (Nat×NP)}{one:NP},(∀q∈told,q.2.1.testBit k=false)->(qW told one).1.testBit k=one.1.testBit k
 | [],one,_=>rfl
 |q::r,one,h=>by
  show (qW r (if one.1.testBit q.1=true then both one q.2 else one)).1.testBit k=_;rw[JM λq' hq=>h q' (by simp[hq])];split
  ·show (one.1 ^^^ q.2.1).testBit k=_;rw[vE,h q (by simp)];simp
  ·rfl
structure Own(free:Nat)(told:List (Nat×NP)):Prop where
 nd:(told.map (·.1)).Nodup
 fr:∀q∈told,free.testBit q.1=true
 own:∀q∈told,q.2.1.testBit q.1=true
 oth:∀q∈told,∀q'∈told,q'.1≠q.1->q.2.1.testBit q'.1=false
theorem ZQ:∀{told:List (Nat×NP)}{one:NP}{q:Nat×NP},(told.map (·.1)).Nodup->(∀q∈told,q.2.1.testBit q.1=true)->(∀q∈told,∀q'∈told,q'.1≠q.1->q.2.1.testBit q'.1=false)->q∈told->(qW told one).1.testBit q.1=false
 | [],_,_,_,_,_,h=>by cases h
 |p::r,one,q,nd,own,oth,h=>by
  rw[List.map_cons,wf]at nd;show (qW r (if one.1.testBit p.1=true then both one p.2 else one)).1.testBit q.1=false;rcases wJ.mp h with rfl|h
  ·rw[JM λq' hq=>oth q' (by simp[hq]) q (by simp) λz=>nd.1 (wW.mpr ⟨q',hq,z.symm⟩)];split
   ·rename_i e;show (one.1 ^^^ q.2.1).testBit q.1=false;rw[vE,e,own q (by simp)];rfl
   ·rename_i e;simpa using e
  ·exact ZQ nd.2 (λq' hq=>own q' (by simp[hq])) (λa ha b hb=>oth a (by simp[ha]) b (by simp[hb])) h
theorem Own.less{free:Nat}{told:List (Nat×NP)}(o:Own free told)(one:NP){q:Nat×NP}(h:q∈told):(qW told one).1.testBit q.1=false:=ZQ o.nd o.own o.oth h
theorem qBa{told:List (Nat×NP)}{k:Nat}{v:NP}(h:∀q∈told,q.1≠k):l7 told k v=told++[(k,v)]:=by
 unfold l7;rw[if_neg];rw[wu];rintro⟨q,hq,e⟩;exact h q hq (uK e)
theorem Zl{f:Nat}{l:NP}{told:List (Nat×NP)}{q:Nat×NP}(h:q∈jo f l told):∃q0∈told,q0.1=q.1/\q.2=if q0.2.1.testBit f=true then both q0.2 l else q0.2:=by
 obtain⟨q0,h0,rfl⟩:=wW.mp h;refine⟨q0,h0,?_⟩;split<;>exact⟨rfl,rfl⟩
theorem j9{a free:Nat}(h:a&&& free≠0):a.testBit (JG (a&&& free))=true/\free.testBit (JG (a&&& free))=true:=by
 have:=W8 h;rw[Nat.testBit_and,wE]at this;exact this
theorem Own.told{free:Nat}{told:List (Nat×NP)}{one:NP}(o:Own free told)(h:(qW told one).1&&& free≠0):(qu told free one).1=jo (JG ((qW told one).1&&& free)) (qW told one) told++[(JG ((qW told one).1&&& free),qW told one)]:=by
 unfold qu;dsimp only;rw[if_neg h,qBa λq hq z=>?_];obtain⟨q0,h0,e0,_⟩:=Zl hq;have:=o.less one h0;rw[e0,z,(j9 h).1]at this;cases this
theorem Own.next{free:Nat}{told:List (Nat×NP)}(o:Own free told)(one:NP):Own free (qu told free one).1:=by
 by_cases h:(qW told one).1&&& free=0
 ·have:(qu told free one).1=told:=by unfold qu;dsimp only;rw[if_pos h]
  rw[this];exact o
 ·rw[o.told h];have lo:=j9 h;have ls:∀q∈told,(qW told one).1.testBit q.1=false:=λq hq=>o.less one hq;generalize JG ((qW told one).1&&& free)=f at *;generalize qW told one=l at *;have nk:∀q∈told,q.1≠f:=λq hq z=>by have:=ls q hq;rw[z,lo.1]at this;cases this
  have sb:∀q∈jo f l told,∃q0∈told,q0.1=q.1/\(∀k,k≠f->(∀h:l.1.testBit k=false,q.2.1.testBit k=q0.2.1.testBit k))/\q.2.1.testBit f=false:=λq hq=>by
   obtain⟨q0,h0,e0,e1⟩:=Zl hq;refine⟨q0,h0,e0,λk hk hl=>?_,?_⟩
   ·rw[e1];split
    ·show (q0.2.1 ^^^ l.1).testBit k=_;rw[vE,hl];simp
    ·rfl
   ·rw[e1];split
    ·rename_i e;show (q0.2.1 ^^^ l.1).testBit f=_;rw[vE,e,lo.1];rfl
    ·rename_i e;simpa using e
  refine⟨?_,λq hq=>?_,λq hq=>?_,λq hq q' hq' hne=>?_⟩
  ·rw[wk,QO,wn];refine⟨o.nd,by simp,λa ha b hb=>?_⟩;obtain⟨q,hq,rfl⟩:=wW.mp ha;have:b=f:=by simpa using hb
   rw[this];exact nk q hq
  ·rcases wF.mp hq with hq|hq
   ·obtain⟨q0,h0,e0,_⟩:=sb q hq;rw[<-e0];exact o.fr q0 h0
   ·rw[wP.mp hq];exact lo.2
  ·rcases wF.mp hq with hq|hq
   ·obtain⟨q0,h0,e0,e1,_⟩:=sb q hq;rw[<-e0,e1 q0.1 (nk q0 h0) (ls q0 h0)];exact o.own q0 h0
   ·rw[wP.mp hq];exact lo.1
  ·rcases wF.mp hq with hq|hq
   ·obtain⟨q0,h0,e0,e1,e2⟩:=sb q hq;rcases wF.mp hq' with hq' | hq'
    ·obtain⟨p0,g0,d0,_⟩:=sb q' hq';rw[<-d0,e1 p0.1 (nk p0 g0) (ls p0 g0)];exact o.oth q0 h0 p0 g0 (by rw[d0,e0];exact hne)
    ·rw[wP.mp hq'];exact e2
   ·rw[wP.mp hq]at hne ⊢;rcases wF.mp hq' with hq' | hq'
    ·obtain⟨p0,g0,d0,_⟩:=sb q' hq';rw[<-d0];exact ls p0 g0
    ·rw[wP.mp hq']at hne;exact absurd rfl hne
def Zr(f:NP->Bool)(st:List (Nat×NP)×List NP):Prop:=(∀q∈st.1,f q.2=false)/\∀l∈st.2,f l=false
theorem QS{f:NP->Bool}(hf:∀a b,f (both a b)=(f a ^^ f b)):∀{told:List (Nat×NP)}{one:NP},(∀q∈told,f q.2=false)->f (qW told one)=f one
 | [],_,_=>rfl
 |q::r,one,h=>by
  show f (qW r (if one.1.testBit q.1=true then both one q.2 else one))=_;rw[QS hf λq' hq=>h q' (by simp[hq])];split
  ·rw[hf,h q (by simp)];simp
  ·rfl
theorem qBX{f:NP->Bool}(hf:∀a b,f (both a b)=(f a ^^ f b)){free:Nat}{st:List (Nat×NP)×List NP}(o:Own free st.1)(one:NP):Zr f (zF free st one)↔Zr f st/\f one=false:=by
 unfold Zr zF;dsimp only;by_cases h:(qW st.1 one).1&&& free=0
 ·have e1:qu st.1 free one=(st.1,qW st.1 one):=by unfold qu;dsimp only;rw[if_pos h]
  rw[e1];dsimp only;rw[if_pos h];constructor
  ·rintro⟨a,b⟩;refine⟨⟨a,λl hl=>b l (by simp[hl])⟩,?_⟩;have:=b (qW st.1 one) (by simp)
   rwa [QS hf a]at this
  ·rintro⟨⟨a,b⟩,c⟩;refine⟨a,λl hl=>?_⟩;rcases wF.mp hl with hl|hl
   ·exact b l hl
   ·rw[wP.mp hl,QS hf a];exact c
 ·have e2:(qu st.1 free one).2=qW st.1 one:=by unfold qu;dsimp only;rw[if_neg h]
  rw[o.told h,e2,if_neg h];have lv:=λa=>QS hf (told:=st.1) (one:=one) a;generalize JG ((qW st.1 one).1&&& free)=w at *;generalize qW st.1 one=l at *;constructor
  ·rintro⟨a,b⟩;have fl:=a (w,l) (by simp);have a':∀q∈st.1,f q.2=false:=λq hq=>by
    have:=a (if q.2.1.testBit w=true then (q.1,both q.2 l) else q) (wN _ (wW.mpr ⟨q,hq,rfl⟩));split at this
    ·rw[show ((q.1,both q.2 l):Nat×NP).2=both q.2 l from rfl,hf,fl]at this;simpa using this
    ·exact this
   exact⟨⟨a',b⟩,by rw[<-lv a'];exact fl⟩
  ·rintro⟨⟨a,b⟩,c⟩;have fl:f l=false:=by rw[lv a];exact c
   refine⟨λq hq=>?_,b⟩;rcases wF.mp hq with hq|hq
   ·obtain⟨q0,h0,e0,e1⟩:=Zl hq;rw[e1];split
    ·rw[hf,a q0 h0,fl];rfl
    ·exact a q0 h0
   ·rw[wP.mp hq];exact fl
theorem Y8{free:Nat}{st:List (Nat×NP)×List NP}(h:∀l∈st.2,l.1&&& free=0)(one:NP):∀l∈(zF free st one).2,l.1&&& free=0:=by
 unfold zF;dsimp only;split
 ·rename_i e;intro l hl;rcases wF.mp hl with hl|hl
  ·exact h l hl
  ·rw[wP.mp hl];exact e
 ·exact h
theorem J5{free:Nat}{f:NP->Bool}(hf:∀a b,f (both a b)=(f a ^^ f b)):∀(ps:List NP) (st:List (Nat×NP)×List NP),Own free st.1->(∀l∈st.2,l.1&&& free=0) ->
  Own free (ps.foldl (zF free) st).1/\(∀l∈(ps.foldl (zF free) st).2,l.1&&& free=0)/\(Zr f (ps.foldl (zF free) st)↔Zr f st/\∀l∈ps,f l=false)
 | [],st,o,h=>⟨o,h,by simp⟩
 |p::ps,st,o,h=>by
  obtain⟨a,b,c⟩:=J5 hf ps (zF free st p) (o.next p) (Y8 h p);refine⟨a,b,c.trans ?_⟩;rw[qBX hf o p];simp only[wJ,forall_eq_or_imp];exact and_assoc
theorem solv_keep{free:Nat}{Q:NP->Prop}(hb:∀a b,Q a->Q b->Q (both a b)):∀(ps:List NP) (st:List (Nat×NP)×List NP),(∀q∈st.1,Q q.2)->(∀l∈st.2,Q l)->(∀l∈ps,Q l) ->
  (∀q∈(ps.foldl (zF free) st).1,Q q.2)/\∀l∈(ps.foldl (zF free) st).2,Q l
 | [],st,h1,h2,_=>⟨h1,h2⟩
 |p::ps,st,h1,h2,h3=>by
  have hl:∀{told:List (Nat×NP)}{one:NP},(∀q∈told,Q q.2)->Q one->Q (qW told one):=by
   intro told
   induction told with
   |nil=>exact λ_ h=>h
   |cons q r ih=>
    intro one a b;show Q (qW r (if one.1.testBit q.1=true then both one q.2 else one));refine ih (λq' hq=>a q' (by simp[hq])) ?_;split
    ·exact hb _ _ b (a q (by simp))
    ·exact b
  have hp:=hl h1 (h3 p (by simp));refine solv_keep hb ps (zF free st p) (λq hq=>?_) (λl hl'=>?_) λl hl'=>h3 l (by simp[hl'])
  ·revert hq;unfold zF qu;dsimp only;split
   ·exact λhq=>h1 q hq
   ·intro hq;have sw:∀q∈jo (JG ((qW st.1 p).1&&& free)) (qW st.1 p) st.1,Q q.2:=λq hq=>by
     obtain⟨q0,h0,e0,e1⟩:=Zl hq;rw[e1];split
     ·exact hb _ _ (h1 q0 h0) hp
     ·exact h1 q0 h0
    unfold l7 at hq;split at hq
    ·obtain⟨q0,h0,rfl⟩:=wW.mp hq;split
     ·exact hp
     ·exact sw q0 h0
    ·rcases wF.mp hq with hq|hq
     ·exact sw q hq
     ·rw[wP.mp hq];exact hp
  ·revert hl';unfold zF;dsimp only;split
   ·intro hl';rcases wF.mp hl' with hl' | hl'
    ·exact h2 l hl'
    ·rw[wP.mp hl'];unfold qu;dsimp only;split<;>exact hp
   ·exact λhl'=>h2 l hl'
noncomputable def kx(F:List Nat)(fx x:Nat->Bool)(p:Nat):Bool:=if p∈F then x p else fx p
section
variable{n:Nat}{F:List Nat}{fx c:Nat->Bool}
theorem qB8{x:Nat->Bool}{k:Nat}{b:Bool}{l:NP}(h:l.1.testBit k=false):zH n (kx F fx (qF x k b)) c l=zH n (kx F fx x) c l:=by
 unfold zH;congr 1;refine xl_congr λp _=>?_;by_cases e:p=k
 ·rw[e,h];rfl
 ·unfold kx;rw[ql e]
theorem qD5{x:Nat->Bool}{k:Nat}{l:NP}(hk:k<n)(hF:k∈F)(h:l.1.testBit k=true):zH n (kx F fx (qF x k true)) c l=!zH n (kx F fx (qF x k false)) c l:=by
 unfold zH;rw[xl_flip wx (wZ.mpr hk) (f:=λp=>l.1.testBit p&&kx F fx (qF x k false) p) (g:=λp=>l.1.testBit p&&kx F fx (qF x k true) p) (by unfold kx;rw[if_pos hF,if_pos hF,qS,qS,h];rfl) λp _ e=>by unfold kx;rw[ql e,ql e]];cases xl (List.range n) λp=>l.1.testBit p&&kx F fx (qF x k false) p<;>cases xl (List.range n) λt=>l.2.testBit t&&c t<;>rfl
theorem T0:∀(told:List (Nat×NP)) (V:List Nat),V.Nodup->(told.map (·.1)).Nodup->(∀q∈told,q.1∈V/\q.1∈F/\q.1<n/\q.2.1.testBit q.1=true)->(∀q∈told,∀q'∈told,q'.1≠q.1->q.2.1.testBit q'.1=false) ->
  told.length<=V.length/\zh V (λx=>told.all λq=>!zH n (kx F fx x) c q.2)=2 ^ (V.length-told.length)
 | [],V,_,_,_,_=>⟨vU _,by
  show zh V (λ_=>true)=2 ^ V.length;exact G7 V⟩
 |q::r,V,nd,nk,hq,ho=>by
  obtain⟨h1,h2,h3,h4⟩:=hq q (by simp);rw[List.map_cons,wf]at nk;have ne:∀q'∈r,q'.1≠q.1:=λq' hq' z=>nk.1 (wW.mpr ⟨q',hq',z⟩);obtain⟨i1,i2⟩:=T0 r (V.erase q.1) (nd.erase _) nk.2 (λq' hq'=>by
   obtain⟨a,b⟩:=hq q' (by simp[hq']);exact⟨(List.mem_erase_of_ne (ne q' hq')).mpr a,b⟩) λa ha b hb=>ho a (by simp[ha]) b (by simp[hb])
  have el:=List.length_erase_of_mem h1;have lp:0<V.length:=List.length_pos_of_mem h1;refine⟨by simp;omega,?_⟩;rw[r6 (List.perm_cons_erase h1),S0 (f:=λx=>zH n (kx F fx x) c q.2) (Q:=λx=>r.all λq=>!zH n (kx F fx x) c q.2) (λx=>qD5 h3 h2 h4) λx b=>?_,i2,el,List.length_cons]
  ·congr 1;omega
  ·rw[List.all_cons];congr 1;rw[wl,List.all_eq_true,List.all_eq_true];have hv:∀q'∈r,zH n (kx F fx (qF x q.1 b)) c q'.2=zH n (kx F fx x) c q'.2:=λq' hq'=>qB8 (ho q' (by simp[hq']) q (by simp) (Ne.symm (ne q' hq')));exact⟨λh q' hq'=>by rw[<-hv q' hq'];exact h q' hq',λh q' hq'=>by rw[hv q' hq'];exact h q' hq'⟩
end
theorem two_xor{n m:Nat}(h:m.testBit n=false):2 ^ n+m=2 ^ n ^^^ m:=by
 have z:2 ^ n&&& m=0:=by
  refine Nat.eq_of_testBit_eq λi=>?_;rw[Nat.testBit_and,vO,Nat.zero_testBit];by_cases e:n=i
  ·subst e;rw[h];simp
  ·rw[uH e];rfl
 have:=xor_and (2 ^ n) m;rw[z,Nat.mul_zero,Nat.add_zero]at this;exact this.symm
theorem marks_bit:∀{L:List Nat},L.Nodup->∀p,(qK L).testBit p=decide (p∈L)
 | [],_,p=>by simp[qK]
 |n::L,nd,p=>by
  rw[wf]at nd;have ih:=marks_bit nd.2;have e:qK (n::L)=2 ^ n+qK L:=rfl;rw[e,two_xor (by rw[ih];exact uH nd.1),vE,vO,ih];by_cases h:n=p
  ·subst h;rw[uI rfl,uH nd.1,uI (by simp)];rfl
  ·rw[uH h];by_cases h2:p∈L
   ·rw[uI h2,uI (by simp[h2])];rfl
   ·rw[uH h2,uH (by simp[h2,Ne.symm h])];rfl
theorem qBu(free:Nat):Own free []:=⟨by simp,λq h=>(by cases h),λq h=>(by cases h),λq h=>(by cases h)⟩
theorem qCI{a free p:Nat}(h:a&&& free=0)(hp:free.testBit p=true):a.testBit p=false:=by
 have:(a&&& free).testBit p=false:=by rw[h];simp
 rw[Nat.testBit_and,hp,vM]at this;exact this
section
variable{n:Nat}{F:List Nat}{fx c:Nat->Bool}(nd:F.Nodup) (hF:∀p∈F,p<n)
include nd hF
theorem cnt_solv(ps:List NP):
  (Qq (qK F) ps).1.length<=F.length/\zh F (λx=>ps.all λl=>!zH n (kx F fx x) c l)=if (Qq (qK F) ps).2.any (λl=>zH n (kx F fx λ_=>false) c l)=true then 0 else 2 ^ (F.length-(Qq (qK F) ps).1.length):=by
 have fb:=marks_bit nd;have all:=λx=>J5 (f:=zH n (kx F fx x) c) (u6 n (kx F fx x) c) (free:=qK F) ps ([],[]) (qBu _) (λl h=>by cases h);obtain⟨o,rf,_⟩:=all λ_=>false;have e:(ps.foldl (zF (qK F)) ([],[]))=Qq (qK F) ps:=rfl;simp only[e]at all o rf;generalize Qq (qK F) ps=st at *;have ko:∀q∈st.1,q.1∈F:=λq hq=>by
  have:=o.fr q hq;rw[fb]at this;exact uK this
 obtain⟨l1,l2⟩:=T0 (n:=n) (F:=F) (fx:=fx) (c:=c) st.1 F nd o.nd (λq hq=>⟨ko q hq,ko q hq,hF _ (ko q hq),o.own q hq⟩) o.oth;refine⟨l1,?_⟩;have cst:∀x,∀l∈st.2,zH n (kx F fx x) c l=zH n (kx F fx λ_=>false) c l:=λx l hl=>by
  unfold zH;congr 1;refine xl_congr λp _=>?_;by_cases hp:p∈F
  ·rw[qCI (rf l hl) (by rw[fb];exact uI hp)];rfl
  ·unfold kx;rw[if_neg hp,if_neg hp]
 have eq:∀x,(ps.all λl=>!zH n (kx F fx x) c l)=((st.1.all λq=>!zH n (kx F fx x) c q.2)&&st.2.all λl=>!zH n (kx F fx λ_=>false) c l):=λx=>by
  have z:=(all x).2.2;rw[wl,wE,List.all_eq_true,List.all_eq_true,List.all_eq_true];unfold Zr at z;constructor
  ·intro h;obtain⟨a,b⟩:=z.mpr ⟨⟨λq h=>(by cases h),λq h=>(by cases h)⟩,λl hl=>by simpa using h l hl⟩;exact⟨λq hq=>by rw[a q hq];rfl,λl hl=>by rw[<-cst x l hl,b l hl];rfl⟩
  ·rintro⟨a,b⟩ l hl;have:=(z.mp ⟨λq hq=>by simpa using a q hq,λl hl=>by rw[cst x l hl];simpa using b l hl⟩).2 l hl;rw[this];rfl
 rw[cnt_congr eq];by_cases h:st.2.any (λl=>zH n (kx F fx λ_=>false) c l)=true
 ·rw[if_pos h];have:(st.2.all λl=>!zH n (kx F fx λ_=>false) c l)=false:=by
   rw[<-Bool.not_eq_true,List.all_eq_true];intro z;obtain⟨l,hl,hv⟩:=wu.mp h;have:=z l hl;rw[hv]at this;cases this
  rw[cnt_congr (B:=λ_=>false) (λx=>by rw[this,Bool.and_false]),Jn]
 ·rw[if_neg h];have:(st.2.all λl=>!zH n (kx F fx λ_=>false) c l)=true:=by
   rw[List.all_eq_true];intro l hl;cases hv:zH n (kx F fx λ_=>false) c l
   ·rfl
   ·exact absurd (wu.mpr ⟨l,hl,hv⟩) h
  rw[cnt_congr (B:=λx=>st.1.all λq=>!zH n (kx F fx x) c q.2) (λx=>by rw[this,vM])];exact l2
end
noncomputable def lb(a b:NP):NP:=(a.1 ^^^ b.1,(a.2+b.2) % 2)
noncomputable def zL(j:Nat)(eqs:List NP):List NP:=eqs.filter λe=>!e.1.testBit j
noncomputable def jk(j:Nat)(eqs:List NP):List NP:=eqs.filter λe=>e.1.testBit j
noncomputable def zC(st:List NP×Nat)(j:Nat):List NP×Nat:=match jk j st.1 with
 | []=>(zL j st.1,st.2)
 |h::H=>(zL j st.1++H.map (λe=>lb e h),st.2-1)
noncomputable def lv(F:List Nat)(x:Nat->Bool)(e:NP):Bool:=xl (List.range F.length) (λj=>e.1.testBit j&&x (F.getD j 0)) ^^ decide (e.2=1)
theorem qDI(F:List Nat)(x:Nat->Bool){a b:NP}(ha:a.2<2)(hb:b.2<2):lv F x (lb a b)=(lv F x a ^^ lv F x b):=by
 show (xl (List.range F.length) (λj=>(a.1 ^^^ b.1).testBit j&&x (F.getD j 0)) ^^ decide ((a.2+b.2) % 2=1))=_;rw[B0];unfold lv;generalize xl (List.range F.length) (λj=>a.1.testBit j&&x (F.getD j 0))=w1;generalize xl (List.range F.length) (λj=>b.1.testBit j&&x (F.getD j 0))=w2;generalize a.2=a2 at *;generalize b.2=b2 at *;rcases(by omega:a2=0\/a2=1) with rfl|rfl<;>rcases(by omega:b2=0\/b2=1) with rfl|rfl<;>cases w1<;>cases w2<;>rfl
theorem ZY{F:List Nat}(nd:F.Nodup){i j:Nat}(hi:i<F.length)(hj:j<F.length)(h:F.getD i 0=F.getD j 0):i=j:=by
 rw[wY,wY,wD hi,wD hj]at h;exact(List.getElem_inj nd).mp h
theorem ZO{F:List Nat}(nd:F.Nodup){x:Nat->Bool}{j:Nat}(hj:j<F.length){b:Bool}{e:NP}(h:e.1.testBit j=false):lv F (qF x (F.getD j 0) b) e=lv F x e:=by
 unfold lv;congr 1;refine xl_congr λi hi=>?_;by_cases z:i=j
 ·rw[z,h];rfl
 ·rw[ql λy=>z (ZY nd (wZ.mp hi) hj y)]
theorem qFD{F:List Nat}(nd:F.Nodup){x:Nat->Bool}{j:Nat}(hj:j<F.length){e:NP}(h:e.1.testBit j=true):lv F (qF x (F.getD j 0) true) e=!lv F (qF x (F.getD j 0) false) e:=by
 unfold lv;rw[xl_flip wx (wZ.mpr hj) (f:=λi=>e.1.testBit i&&qF x (F.getD j 0) false (F.getD i 0)) (g:=λi=>e.1.testBit i&&qF x (F.getD j 0) true (F.getD i 0)) (by rw[qS,qS,h];rfl) λi hi z=>by
  rw[ql λy=>z (ZY nd (wZ.mp hi) hj y),ql λy=>z (ZY nd (wZ.mp hi) hj y)]]
 cases xl (List.range F.length) (λi=>e.1.testBit i&&qF x (F.getD j 0) false (F.getD i 0))<;>cases decide (e.2=1)<;>rfl
theorem law_cnt{F:List Nat}(nd:F.Nodup):∀(V:List Nat) (j:Nat) (eqs:List NP) (many:Nat),F.drop j=V->j<=F.length->(∀e∈eqs,e.2<2/\∀i,i<j->e.1.testBit i=false)->V.length<=many ->
  zh V (λx=>eqs.all λe=>!lv F x e)*2 ^ (many-V.length)=if ((List.range' j V.length).foldl zC (eqs,many)).1.any (λe=>decide (e.2=1))=true then 0 else 2 ^ ((List.range' j V.length).foldl zC (eqs,many)).2
 | [],j,eqs,many,hV,hj,he,hm=>by
  have hj':j=F.length:=by
   have:=vt.mp hV;omega
  have z:∀e∈eqs,lv F (λ_=>false) e=decide (e.2=1):=λe h=>by
   unfold lv;rw[xl_none λi hi=>by simp];simp
  show ((eqs.all λe=>!lv F (λ_=>false) e)).toNat*2 ^ (many-0)=if eqs.any (λe=>decide (e.2=1))=true then 0 else 2 ^ many
  by_cases h:eqs.any (λe=>decide (e.2=1))=true
  ·rw[if_pos h];obtain⟨e,h1,h2⟩:=wu.mp h;have:(eqs.all λe=>!lv F (λ_=>false) e)=false:=by
    rw[<-Bool.not_eq_true,List.all_eq_true];intro y;have:=y e h1;rw[z e h1,h2]at this;cases this
   rw[this];simp
  ·rw[if_neg h];have:(eqs.all λe=>!lv F (λ_=>false) e)=true:=by
    rw[List.all_eq_true];intro e h1;rw[z e h1];cases y:decide (e.2=1)
    ·rfl
    ·exact absurd (wu.mpr ⟨e,h1,y⟩) h
   rw[this];simp
 |v::V,j,eqs,many,hV,hj,he,hm=>by
  have hjl:j<F.length:=by
   refine Decidable.byContradiction λz=>?_;rw[vm (by omega)]at hV;cases hV
  have hv:F.getD j 0=v/\F.drop (j+1)=V:=by
   rw[vd hjl]at hV;injection hV with h1 h2;exact⟨by rw[wY,wD hjl];exact h1,h2⟩
  rw[List.length_cons]at hm ⊢;rw[vG,List.foldl_cons];have rs:∀e∈zL j eqs,e.2<2/\∀i,i<j+1->e.1.testBit i=false:=λe h=>by
   obtain⟨h1,h2⟩:=we.mp h;refine⟨(he e h1).1,λi hi=>?_⟩;by_cases z:i=j
   ·rw[z];simpa using h2
   ·exact(he e h1).2 i (by omega)
  cases hh:jk j eqs with
  |nil=>
   have st:zC (eqs,many) j=(zL j eqs,many):=by
    unfold zC;dsimp only;rw[hh]
   rw[st,<-law_cnt nd V (j+1) (zL j eqs) many hv.2 (by omega) rs (by omega)];have no:∀e∈eqs,e.1.testBit j=false:=λe h=>by
    cases y:e.1.testBit j
    ·rfl
    ·have:e∈jk j eqs:=we.mpr ⟨h,y⟩;rw[hh]at this;cases this
   have er:zL j eqs=eqs:=List.filter_eq_self.mpr λe h=>by rw[no e h];rfl
   rw[er,qBc (Q:=λx=>eqs.all λe=>!lv F x e) λx b=>?_]
   ·rw[show many-V.length=(many-(V.length+1))+1 by omega,Nat.pow_succ,uD 2,Nat.mul_assoc,uD 2]
   ·rw[<-hv.1,wl,List.all_eq_true,List.all_eq_true];exact⟨λh e he'=>by rw[<-ZO nd hjl (b:=b) (no e he')];exact h e he',λh e he'=>by rw[ZO nd hjl (b:=b) (no e he')];exact h e he'⟩
  |cons h0 H=>
   have st:zC (eqs,many) j=(zL j eqs++H.map (λe=>lb e h0),many-1):=by
    unfold zC;dsimp only;rw[hh]
   have hm0:∀e∈h0::H,e∈eqs/\e.1.testBit j=true:=λe h=>by
    rw[<-hh]at h;exact we.mp h
   have bt:h0.1.testBit j=true:=(hm0 h0 (by simp)).2;have b2:h0.2<2:=(he _ (hm0 h0 (by simp)).1).1;have nb:∀e∈H,(lb e h0).1.testBit j=false:=λe h=>by
    show (e.1 ^^^ h0.1).testBit j=false;rw[vE,(hm0 e (by simp[h])).2,bt];rfl
   rw[st,<-law_cnt nd V (j+1) (zL j eqs++H.map (λe=>lb e h0)) (many-1) hv.2 (by omega) (λe h=>?_) (by omega)]
   ·rw[S0 (f:=λx=>lv F x h0) (Q:=λx=>(zL j eqs++H.map (λe=>lb e h0)).all λe=>!lv F x e) (λx=>by rw[<-hv.1];exact qFD nd hjl bt) λx b=>?_,show many-(V.length+1)=many-1-V.length by omega];rw[<-hv.1,wl,wE,List.all_eq_true,List.all_eq_true];constructor
    ·intro h;have f0:lv F (qF x (F.getD j 0) b) h0=false:=by simpa using h h0 (hm0 h0 (by simp)).1
     refine⟨by rw[f0];rfl,λe he'=>?_⟩;rcases wF.mp he' with he' | he'
     ·obtain⟨h1,h2⟩:=we.mp he';have:=h e h1
      rwa [ZO nd hjl (by simpa using h2)]at this
     ·obtain⟨e0,h1,rfl⟩:=wW.mp he';rw[<-ZO nd hjl (b:=b) (nb e0 h1),qDI F _ (he _ (hm0 e0 (by simp[h1])).1).1 b2,f0];have:=h e0 (hm0 e0 (by simp[h1])).1;simpa using this
    ·rintro⟨f0,h⟩ e h1;have f0:lv F (qF x (F.getD j 0) b) h0=false:=by simpa using f0
     cases y:e.1.testBit j
     ·have:=h e (wN _ (we.mpr ⟨h1,by rw[y];rfl⟩))
      rwa [ZO nd hjl y]
     ·have mh:e∈jk j eqs:=we.mpr ⟨h1,y⟩;rw[hh]at mh;rcases wJ.mp mh with rfl|mh
      ·rw[f0];rfl
      ·have:=h (lb e h0) (wQ _ (wW.mpr ⟨e,mh,rfl⟩));rw[<-ZO nd hjl (b:=b) (nb e mh),qDI F _ (he e h1).1 b2,f0]at this;simpa using this
   ·rcases wF.mp h with h|h
    ·exact rs e h
    ·obtain⟨e0,h1,rfl⟩:=wW.mp h;refine⟨uE _ (by decide),λi hi=>?_⟩;by_cases z:i=j
     ·rw[z];exact nb e0 h1
     ·show (e0.1 ^^^ h0.1).testBit i=false;rw[vE,(he _ (hm0 e0 (by simp[h1])).1).2 i (by omega),(he _ (hm0 h0 (by simp)).1).2 i (by omega)];rfl
end Ft
namespace _M
open PySem PySem.Spec PyProof.Rows _L _P
noncomputable def top(i:Nat):Stmt:=PySem.Challenge.pw_healhalves_k54_how_many_fit.main.body.getD i (.Pass ⟨0,0,0,0⟩)
noncomputable def Tb:Tbl:=⟨[⟨"is_whole",top 7,["thing"],["thing"]⟩,
 ⟨"is_number_below",top 8,["thing","end"],["thing","end"]⟩,
 ⟨"is_rising",top 9,["thing","end"],["thing","end","least","number"]⟩,
 ⟨"length_of",top 10,["size"],["size"]⟩,
 ⟨"is_size",top 11,["thing"],["thing"]⟩,
 ⟨"is_sign",top 13,["thing"],["thing"]⟩,
 ⟨"is_row",top 14,["thing","length"],["thing","length"]⟩,
 ⟨"sum_of",top 15,["signs"],["signs"]⟩,
 ⟨"is_reached",top 17,["place","spot"],["place","spot"]⟩,
 ⟨"is_code",top 19,["thing"],["thing","length"]⟩,
 ⟨"check_code",top 20,["code"],["code"]⟩,
 ⟨"fixed_signs",top 21,["code"],["code","others"]⟩,
 ⟨"is_came",top 23,["thing","length"],["thing","length"]⟩,
 ⟨"check_came",top 24,["size","came"],["size","came"]⟩,
 ⟨"how_many_fit",top 26,["code","came"],["code","came","left"]⟩,
 ⟨"left_open",top 27,["code","came"],["code","came","found"]⟩,
 ⟨"doubled",top 28,["times"],["times","number","time"]⟩,
 ⟨"marks_of",top 29,["numbers"],["numbers"]⟩,
 ⟨"numbers_of",top 30,["marks"],["marks"]⟩,
 ⟨"has_mark",top 31,["marks","number"],["marks","number"]⟩,
 ⟨"sum_at_spot",top 32,["size","spot"],["size","spot"]⟩,
 ⟨"sums_that_came",top 33,["code","came"],["code","came"]⟩,
 ⟨"both_sums",top 34,["one","other"],["one","other"]⟩,
 ⟨"solved",top 35,["code","sums"],["code","sums","free","told","rest","one","less"]⟩,
 ⟨"put_in",top 36,["told","free","one"],["told","free","one","place","first"]⟩,
 ⟨"sign_told",top 37,["code","came","one"],["code","came","one","fixed","signs"]⟩,
 ⟨"first_slip",top 38,["code","came","rest"],["code","came","rest","one"]⟩,
 ⟨"_law_bag",top 40,["_law_script","_law_k"],["_law_script","_law_k","_law_cell","_law_great"]⟩,
 ⟨"_law_out",top 41,["_law_bag_here","_law_many_here"],["_law_bag_here","_law_many_here","_law_found"]⟩,
 ⟨"_law_whole",top 42,["_law_thing"],["_law_thing"]⟩,
 ⟨"_law_code",top 43,["_law_bag_here","_law_most"],["_law_bag_here","_law_most","_law_size","_law_way","_law_free"]⟩,
 ⟨"_law_core",top 44,["_law_code_here","_law_data"],["_law_code_here","_law_data","_law_size","_law_free","_law_fixed","_law_place","_law_found","_law_ahead"]⟩,
 ⟨"_law_word",top 45,["_law_core_here"],["_law_core_here"]⟩,
 ⟨"_law_zero",top 46,["_law_code_here"],["_law_code_here"]⟩,
 ⟨"_law_came",top 47,["_law_bag_here","_law_code_here"],["_law_bag_here","_law_code_here","_law_way","_law_many_here","_law_word_here","_law_often","_law_came_here","_law_at"]⟩,
 ⟨"_law_equations",top 48,["_law_code_here","_law_came_here"],["_law_code_here","_law_came_here","_law_zero_here","_law_found","_law_spot","_law_mask"]⟩,
 ⟨"_law_left",top 49,["_law_code_here","_law_came_here"],["_law_code_here","_law_came_here","_law_left_here","_law_many_here","_law_k","_law_heads"]⟩,
 ⟨"_law_many",top 50,["_law_code_here","_law_came_here"],["_law_code_here","_law_came_here","_law_left_here"]⟩,
 ⟨"_law_right",top 51,["_law_code_here","_law_came_here"],["_law_code_here","_law_came_here","_law_handed","_law_found"]⟩,
 ⟨"law",top 52,["_law_script"],["_law_script","_law_k","_law_bag_here","_law_code_here","_law_came_here","_law_at","_law_many_here","_law_more","_law_lost","_law_other"]⟩],
 [("LENGTHS",E.glob 0),("GREATEST_SIZE",E.cst (.int 5))],
 ["len","sum","all","max","min","list","int","tuple","range","zip","isinstance","bool","dict","enumerate","ValueError"],[],[]⟩
noncomputable def gs:List O:=[O.tup [V.int 1,V.int 2,V.int 4,V.int 8,V.int 16,V.int 32]]
end _M
namespace _M
open PySem PySem.Spec _P
open _L (V)
noncomputable def b0:Ss:=(.cons (.ret (.and (.isi (.var 0) ["int"]) (.not (.isi (.var 0) ["bool"])))) .nil)
noncomputable def b1:Ss:=(.cons (.ret (.and (.call 0 (.cons (.var 0) .nil)) (.cmp2 .le .lt (nE 0) (.var 0) (.var 1)))) .nil)
noncomputable def qEf:Ss:=(.cons (.ifs (.or (.not (.call 1 (.cons (.var 3) (.cons (.var 1) .nil)))) (.cmp .lt (.var 3) (.var 2))) (.cons (.ret (.cst (V.bl false))) .nil) .nil) (.cons (.asg (.name 2) (.bin .add (.var 3) (nE 1))) .nil))
noncomputable def b2:Ss:=(.cons (.ifs (.not (.isi (.var 0) ["list"])) (.cons (.ret (.cst (V.bl false))) .nil) .nil) (.cons (.asg (.name 2) (nE 0)) (.cons (.for_ (.name 3) (.list (.var 0)) qEf) (.cons (.ret (.cst (V.bl true))) .nil))))
noncomputable def b3:Ss:=(.cons (.ret (.idx (.glob 0) (.var 0))) .nil)
noncomputable def b4:Ss:=(.cons (.ret (.and (.call 0 (.cons (.var 0) .nil)) (.cmp2 .le .le (nE 1) (.var 0) (nE 5)))) .nil)
noncomputable def b5:Ss:=(.cons (.ret (.call 1 (.cons (.var 0) (.cons (nE 2) .nil)))) .nil)
noncomputable def b6:Ss:=(.cons (.ret (.and (.isi (.var 0) ["list"]) (.and (.cmp .eq (.blt .len (.cons (.var 0) .nil)) (.var 1)) (.blt .all (.cons (.comp (.list (.var 0)) [none] (.name 0) .nil (.call 5 (.cons (.var 0) .nil))) .nil))))) .nil)
noncomputable def b7:Ss:=(.cons (.ret (.bin .mod (.blt .sum (.cons (.var 0) .nil)) (nE 2))) .nil)
noncomputable def b8:Ss:=(.cons (.ret (.cmp .eq (.bin .band (.var 0) (.var 1)) (.var 1))) .nil)
noncomputable def b9:Ss:=(.cons (.ifs (.or (.not (.isi (.var 0) ["tuple"])) (.or (.cmp .ne (.blt .len (.cons (.var 0) .nil)) (nE 3)) (.not (.call 4 (.cons (.idx (.var 0) (nE 0)) .nil))))) (.cons (.ret (.cst (V.bl false))) .nil) .nil) (.cons (.asg (.name 1) (.call 3 (.cons (.idx (.var 0) (nE 0)) .nil))) (.cons (.ifs (.or (.not (.call 2 (.cons (.idx (.var 0) (nE 1)) (.cons (.var 1) .nil)))) (.cmp .eq (.idx (.var 0) (nE 1)) (.lst .nil))) (.cons (.ret (.cst (V.bl false))) .nil) .nil) (.cons (.ret (.call 6 (.cons (.idx (.var 0) (nE 2)) (.cons (.bin .sub (.var 1) (.blt .len (.cons (.idx (.var 0) (nE 1)) .nil))) .nil)))) .nil))))
noncomputable def b10:Ss:=(.cons (.ifs (.not (.call 9 (.cons (.var 0) .nil))) (.cons .stop .nil) .nil) .nil)
noncomputable def b11:Ss:=(.cons (.asg (.name 1) (.comp (.rng1 (.call 3 (.cons (.idx (.var 0) (nE 0)) .nil))) [none,some 0] (.name 0) (.cons (.cmp .notin (.var 0) (.idx (.var 1) (nE 1))) .nil) (.var 0))) (.cons (.ret (.dzip (.var 1) (.idx (.var 0) (nE 2)))) .nil))
noncomputable def b12:Ss:=(.cons (.ifs (.or (.not (.isi (.var 0) ["list"])) (.cmp .ne (.blt .len (.cons (.var 0) .nil)) (.var 1))) (.cons (.ret (.cst (V.bl false))) .nil) .nil) (.cons (.ret (.blt .all (.cons (.comp (.list (.var 0)) [none] (.name 0) .nil (.or (.cmp .is (.var 0) (.cst V.non)) (.call 5 (.cons (.var 0) .nil)))) .nil))) .nil))
noncomputable def b13:Ss:=(.cons (.ifs (.not (.call 12 (.cons (.var 1) (.cons (.call 3 (.cons (.var 0) .nil)) .nil)))) (.cons .stop .nil) .nil) .nil)
noncomputable def b14:Ss:=(.cons (.expr (.call 10 (.cons (.var 0) .nil))) (.cons (.expr (.call 13 (.cons (.idx (.var 0) (nE 0)) (.cons (.var 1) .nil)))) (.cons (.asg (.name 2) (.call 15 (.cons (.var 0) (.cons (.var 1) .nil)))) (.cons (.ret (.ite (.cmp .is (.var 2) (.cst V.non)) (nE 0) (.call 16 (.cons (.var 2) .nil)))) .nil))))
noncomputable def b15:Ss:=(.cons (.asg (.name 2) (.call 23 (.cons (.var 0) (.cons (.call 21 (.cons (.var 0) (.cons (.var 1) .nil))) .nil)))) (.cons (.ifs (.cmp .isnot (.call 26 (.cons (.var 0) (.cons (.var 1) (.cons (.idx (.var 2) (nE 1)) .nil)))) (.cst V.non)) (.cons (.ret (.cst V.non)) .nil) .nil) (.cons (.ret (.bin .sub (.blt .len (.cons (.idx (.var 0) (nE 1)) .nil)) (.blt .len (.cons (.idx (.var 2) (nE 0)) .nil)))) .nil)))
noncomputable def m5:Ss:=(.cons (.asg (.name 1) (.bin .add (.var 1) (.var 1))) .nil)
noncomputable def b16:Ss:=(.cons (.asg (.name 1) (nE 1)) (.cons (.for_ (.name 2) (.rng1 (.var 0)) m5) (.cons (.ret (.var 1)) .nil)))
noncomputable def b17:Ss:=(.cons (.ret (.blt .sum (.cons (.comp (.list (.var 0)) [none] (.name 0) .nil (.call 16 (.cons (.var 0) .nil))) .nil))) .nil)
noncomputable def b18:Ss:=(.cons (.ret (.comp (.rng1 (.blt .bits (.cons (.var 0) .nil))) [none,some 0] (.name 0) (.cons (.call 19 (.cons (.var 1) (.cons (.var 0) .nil))) .nil) (.var 0))) .nil)
noncomputable def b19:Ss:=(.cons (.ret (.cmp .eq (.bin .band (.bin .shr (.var 0) (.var 1)) (nE 1)) (nE 1))) .nil)
noncomputable def b20:Ss:=(.cons (.ret (.tup (.cons (.call 17 (.cons (.comp (.rng1 (.call 3 (.cons (.var 0) .nil))) [none,some 1] (.name 0) (.cons (.call 8 (.cons (.var 0) (.cons (.var 1) .nil))) .nil) (.var 0)) .nil)) (.cons (.call 16 (.cons (.var 1) .nil)) .nil)))) .nil)
noncomputable def b21:Ss:=(.cons (.ret (.comp (.enum (.var 1)) [none,none,some 0] (.tup [0,1]) (.cons (.cmp .isnot (.var 1) (.cst V.non)) .nil) (.call 20 (.cons (.idx (.var 2) (nE 0)) (.cons (.var 0) .nil))))) .nil)
noncomputable def b22:Ss:=(.cons (.ret (.tup (.cons (.bin .bxor (.idx (.var 0) (nE 0)) (.idx (.var 1) (nE 0))) (.cons (.bin .bxor (.idx (.var 0) (nE 1)) (.idx (.var 1) (nE 1))) .nil)))) .nil)
noncomputable def qFd:Ss:=(.cons (.asg (.name 6) (.call 24 (.cons (.var 3) (.cons (.var 2) (.cons (.var 5) .nil))))) (.cons (.ifs (.cmp .eq (.bin .band (.idx (.var 6) (nE 0)) (.var 2)) (nE 0)) (.cons (.expr (.app (.var 4) (.var 6))) .nil) .nil) .nil))
noncomputable def qGu:Ss:=(.cons (.asg (.name 2) (.call 17 (.cons (.idx (.var 0) (nE 1)) .nil))) (.cons (.asg (.name 3) .dnew) (.cons (.asg (.name 4) (.lst .nil)) (.cons (.for_ (.name 5) (.list (.var 1)) qFd) (.cons (.ret (.tup (.cons (.var 3) (.cons (.var 4) .nil)))) .nil)))))
theorem qHG:Tb.fns[23]?=some ⟨2,7,qGu⟩:=by kernel_rfl
noncomputable def b23:Ss:=.cons .orc (qCi 17 24)
noncomputable def b24:Ss:=qDj 19 22 18
noncomputable def b25:Ss:=(.cons (.asg (.name 3) (.call 11 (.cons (.var 0) .nil))) (.cons (.asg (.name 4) (.comp (.list (.call 18 (.cons (.idx (.var 2) (nE 0)) .nil))) [none,some 3] (.name 0) (.cons (.cmp .inn (.var 0) (.var 1)) .nil) (.dix (.var 1) (.var 0)))) (.cons (.ret (.call 7 (.cons (.bin .add (.var 4) (.comp (.list (.call 18 (.cons (.idx (.var 2) (nE 1)) .nil))) [none,some 1] (.name 0) .nil (.idx (.var 1) (.var 0)))) .nil))) .nil)))
noncomputable def QV:Ss:=(.cons (.ifs (.cmp .eq (.call 25 (.cons (.var 0) (.cons (.var 1) (.cons (.var 3) .nil)))) (nE 1)) (.cons (.ret (.var 3)) .nil) .nil) .nil)
noncomputable def b26:Ss:=(.cons (.for_ (.name 3) (.list (.var 2)) QV) (.cons (.ret (.cst V.non)) .nil))
noncomputable def b27:Ss:=(.cons (.asg (.name 2) (nE 0)) (.cons (.ifs (.cmp .lt (.var 1) (.blt .len (.cons (.var 0) .nil))) (.cons (.asg (.name 2) (.idx (.var 0) (.var 1))) .nil) .nil) (.cons (.asg (.name 3) (nE 0)) (.cons (.ifs (.cmp .ge (.var 2) (.bin .pow (nE 10) (nE 18))) (.cons (.asg (.name 3) (.var 2)) .nil) .nil) (.cons (.ret (.lst (.cons (.var 3) (.cons (.bin .mod (.bin .pow (.bin .add (.bin .add (.bin .mod (.var 2) (nE 998244353)) (.bin .mul (nE 7368787) (.var 1))) (nE 17)) (nE 3)) (nE 2147483629)) .nil)))) .nil)))))
noncomputable def b28:Ss:=(.cons (.ifs (.cmp .gt (.idx (.var 0) (nE 0)) (nE 0)) (.cons (.asg (.name 2) (.bin .mod (.idx (.var 0) (nE 0)) (.var 1))) (.cons (.put (.var 0) (nE 0) (.bin .fdiv (.idx (.var 0) (nE 0)) (.var 1))) (.cons (.ret (.var 2)) .nil))) .nil) (.cons (.put (.var 0) (nE 1) (.bin .mod (.bin .add (.bin .mul (.idx (.var 0) (nE 1)) (nE 40692)) (nE 12345)) (nE 2147483399))) (.cons (.ret (.bin .mod (.bin .fdiv (.bin .mod (.bin .mul (.idx (.var 0) (nE 1)) (.bin .add (.bin .fdiv (.idx (.var 0) (nE 1)) (nE 1024)) (nE 7))) (nE 2147483647)) (nE 32)) (.var 1))) .nil)))
noncomputable def b29:Ss:=(.cons (.ret (.and (.isi (.var 0) ["int"]) (.not (.isi (.var 0) ["bool"])))) .nil)
noncomputable def b30:Ss:=(.cons (.asg (.name 2) (.bin .add (nE 1) (.call 28 (.cons (.var 0) (.cons (.var 1) .nil))))) (.cons (.asg (.name 3) (.call 28 (.cons (.var 0) (.cons (nE 6) .nil)))) (.cons (.asg (.name 4) (.comp (.rng1 (.bin .shl (nE 1) (.var 2))) [none,some 0,some 3] (.name 0) (.cons (.or (.cmp .eq (.var 2) (nE 0)) (.cmp .eq (.call 28 (.cons (.var 1) (.cons (.bin .add (nE 1) (.var 2)) .nil))) (nE 0))) .nil) (.var 0))) (.cons (.ifs (.cmp .eq (.var 4) (.lst .nil)) (.cons (.asg (.name 4) (.lst (.cons (.call 28 (.cons (.var 0) (.cons (.bin .shl (nE 1) (.var 2)) .nil))) .nil))) .nil) .nil) (.cons (.ret (.tup (.cons (.var 2) (.cons (.var 4) (.cons (.comp (.rng1 (.bin .sub (.bin .shl (nE 1) (.var 2)) (.blt .len (.cons (.var 4) .nil)))) [none,some 0,some 3] (.name 0) .nil (.bin .mul (.call 28 (.cons (.var 1) (.cons (nE 2) .nil))) (.blt .int (.cons (.cmp .ne (.var 2) (nE 5)) .nil)))) .nil))))) .nil)))))
noncomputable def g8:Ss:=(.cons (.ifs (.cmp .inn (.var 5) (.var 3)) (.cons (.put (.var 6) (.var 5) (.idx (.var 1) (.index (.var 3) (.var 5)))) .nil) (.cons (.put (.var 6) (.var 5) (.idx (.var 4) (.var 7))) (.cons (.asg (.name 7) (.bin .add (.var 7) (nE 1))) .nil))) .nil)
noncomputable def b31:Ss:=(.cons (.asg (.tup [2,3,4]) (.var 0)) (.cons (.asg (.name 6) (.comp (.rng1 (.bin .shl (nE 1) (.var 2))) [none] (.name 0) .nil (nE 0))) (.cons (.asg (.name 7) (nE 0)) (.cons (.for_ (.name 5) (.rng1 (.bin .shl (nE 1) (.var 2))) g8) (.cons (.ret (.var 6)) .nil)))))
noncomputable def b32:Ss:=(.cons (.ret (.comp (.rng1 (.blt .len (.cons (.var 0) .nil))) [none,some 0] (.name 0) .nil (.bin .mod (.blt .sum (.cons (.comp (.rng1 (.blt .len (.cons (.var 1) .nil))) [none,some 1,some 0] (.name 0) (.cons (.cmp .eq (.bin .band (.var 0) (.var 2)) (.var 2)) .nil) (.idx (.var 1) (.var 0))) .nil)) (nE 2)))) .nil)
noncomputable def b33:Ss:=(.cons (.ret (.call 32 (.cons (.call 31 (.cons (.var 0) (.cons (.comp (.list (.idx (.var 0) (nE 1))) [none] (.name 0) .nil (nE 0)) .nil))) .nil))) .nil)
noncomputable def b34:Ss:=(.cons (.asg (.name 2) (.call 28 (.cons (.var 0) (.cons (nE 5) .nil)))) (.cons (.asg (.name 3) (.bin .shl (nE 1) (.idx (.var 1) (nE 0)))) (.cons (.asg (.name 4) (.call 32 (.cons (.call 31 (.cons (.var 1) (.cons (.comp (.list (.idx (.var 1) (nE 1))) [none,some 0] (.name 0) .nil (.call 28 (.cons (.var 1) (.cons (nE 2) .nil)))) .nil))) .nil))) (.cons (.asg (.name 5) (.bin .add (nE 1) (.call 28 (.cons (.var 0) (.cons (nE 4) .nil))))) (.cons (.asg (.name 6) (.comp (.list (.var 4)) [none,some 0,some 5] (.name 0) .nil (.idx (.lst (.cons (.var 0) (.cons (.cst V.non) .nil))) (.blt .int (.cons (.cmp .eq (.call 28 (.cons (.var 1) (.cons (.var 2) .nil))) (nE 0)) .nil))))) (.cons (.ifs (.cmp .eq (.var 2) (nE 4)) (.cons (.ret (.comp (.rng1 (.var 3)) [none,some 0] (.name 0) .nil (.idx (.lst (.cons (nE 0) (.cons (nE 1) (.cons (.cst V.non) .nil)))) (.call 28 (.cons (.var 1) (.cons (nE 3) .nil)))))) .nil) .nil) (.cons (.ifs (.cmp .eq (.var 2) (nE 3)) (.cons (.asg (.name 7) (.call 28 (.cons (.var 0) (.cons (.var 3) .nil)))) (.cons (.ifs (.cmp .isnot (.idx (.var 6) (.var 7)) (.cst V.non)) (.cons (.put (.var 6) (.var 7) (.bin .sub (nE 1) (.idx (.var 6) (.var 7)))) .nil) .nil) .nil)) .nil) (.cons (.ret (.var 6)) .nil))))))))
noncomputable def j5:Ss:=(.cons (.ifs (.cmp .isnot (.idx (.var 1) (.var 4)) (.cst V.non)) (.cons (.asg (.name 5) (.blt .sum (.cons (.comp (.rng1 (.blt .len (.cons (.idx (.var 0) (nE 1)) .nil))) [none,some 0,some 4] (.name 0) (.cons (.cmp .eq (.bin .band (.idx (.idx (.var 1) (nE 1)) (.var 0)) (.var 2)) (.var 2)) .nil) (.bin .shl (nE 1) (.var 0))) .nil))) (.cons (.expr (.app (.var 3) (.tup (.cons (.var 5) (.cons (.bin .mod (.bin .add (.idx (.var 1) (.var 4)) (.idx (.var 2) (.var 4))) (nE 2)) .nil))))) .nil)) .nil) .nil)
noncomputable def b35:Ss:=(.cons (.asg (.name 2) (.call 33 (.cons (.var 0) .nil))) (.cons (.asg (.name 3) (.lst .nil)) (.cons (.for_ (.name 4) (.rng1 (.blt .len (.cons (.var 1) .nil))) j5) (.cons (.ret (.var 3)) .nil))))
noncomputable def S9:Ss:=(.cons (.asg (.name 5) (.comp (.list (.var 2)) [none,some 4] (.name 0) (.cons (.cmp .eq (.bin .band (.bin .shr (.idx (.var 0) (nE 0)) (.var 1)) (nE 1)) (nE 1)) .nil) (.var 0))) (.cons (.asg (.name 2) (.comp (.list (.var 2)) [none,some 4] (.name 0) (.cons (.cmp .eq (.bin .band (.bin .shr (.idx (.var 0) (nE 0)) (.var 1)) (nE 1)) (nE 0)) .nil) (.var 0))) (.cons (.ifs (.cmp .ne (.var 5) (.lst .nil)) (.cons (.asg (.name 3) (.bin .sub (.var 3) (nE 1))) (.cons (.asg (.name 2) (.bin .add (.var 2) (.comp (.list (.sl (.var 5) (.cons (nE 1) .nil) .nil)) [none,some 5] (.name 0) .nil (.tup (.cons (.bin .bxor (.idx (.var 0) (nE 0)) (.idx (.idx (.var 1) (nE 0)) (nE 0))) (.cons (.bin .mod (.bin .add (.idx (.var 0) (nE 1)) (.idx (.idx (.var 1) (nE 0)) (nE 1))) (nE 2)) .nil)))))) .nil)) .nil) .nil)))
noncomputable def b36:Ss:=(.cons (.asg (.name 2) (.call 35 (.cons (.var 0) (.cons (.var 1) .nil)))) (.cons (.asg (.name 3) (.blt .len (.cons (.idx (.var 0) (nE 1)) .nil))) (.cons (.for_ (.name 4) (.rng1 (.blt .len (.cons (.idx (.var 0) (nE 1)) .nil))) S9) (.cons (.ifs (.cmp .ne (.comp (.list (.var 2)) [none] (.name 0) (.cons (.cmp .eq (.idx (.var 0) (nE 1)) (nE 1)) .nil) (.var 0)) (.lst .nil)) (.cons (.ret (.cst V.non)) .nil) .nil) (.cons (.ret (.var 3)) .nil)))))
noncomputable def b37:Ss:=(.cons (.asg (.name 2) (.call 36 (.cons (.var 0) (.cons (.var 1) .nil)))) (.cons (.ifs (.cmp .is (.var 2) (.cst V.non)) (.cons (.ret (nE 0)) .nil) .nil) (.cons (.ret (.bin .shl (nE 1) (.var 2))) .nil)))
noncomputable def b38:Ss:=(.cons (.asg (.name 2) (.lst (.cons (.tup (.cons (.idx (.var 0) (nE 0)) (.cons (.blt .list (.cons (.idx (.var 0) (nE 1)) .nil)) (.cons (.blt .list (.cons (.idx (.var 0) (nE 2)) .nil)) .nil)))) (.cons (.blt .list (.cons (.var 1) .nil)) .nil)))) (.cons (.asg (.name 3) (.call 14 (.cons (.idx (.var 2) (nE 0)) (.cons (.idx (.var 2) (nE 1)) .nil)))) (.cons (.ret (.and (.call 29 (.cons (.var 3) .nil)) (.and (.cmp .eq (.var 3) (.call 37 (.cons (.var 0) (.cons (.var 1) .nil)))) (.cmp .eq (.var 2) (.lst (.cons (.var 0) (.cons (.var 1) .nil))))))) .nil)))
noncomputable def q8:Ss:=(.cons (.asg (.name 2) (.call 27 (.cons (.var 0) (.cons (.var 1) .nil)))) (.cons (.asg (.name 3) (.call 30 (.cons (.var 2) (.cons (nE 5) .nil)))) (.cons (.asg (.name 4) (.call 34 (.cons (.var 2) (.cons (.var 3) .nil)))) (.cons (.asg (.name 5) (.call 28 (.cons (.var 2) (.cons (.blt .len (.cons (.var 4) .nil)) .nil)))) (.cons (.ifs (.not (.call 38 (.cons (.var 3) (.cons (.var 4) .nil)))) (.cons (.ret (.cst (V.bl false))) .nil) .nil) (.cons (.asg (.name 6) (.call 14 (.cons (.var 3) (.cons (.var 4) .nil)))) (.cons (.asg (.name 7) (.bin .add (.bin .add (.sl (.var 4) .nil (.cons (.var 5) .nil)) (.lst (.cons (.call 28 (.cons (.var 2) (.cons (nE 2) .nil))) .nil))) (.sl (.var 4) (.cons (.bin .add (.var 5) (nE 1)) .nil) .nil))) (.cons (.asg (.name 8) (.bin .add (.bin .add (.sl (.var 4) .nil (.cons (.var 5) .nil)) (.lst (.cons (.cst V.non) .nil))) (.sl (.var 4) (.cons (.bin .add (.var 5) (nE 1)) .nil) .nil))) (.cons (.ifs (.or (.not (.call 38 (.cons (.var 3) (.cons (.var 7) .nil)))) (.or (.not (.call 38 (.cons (.var 3) (.cons (.var 8) .nil)))) (.not (.call 38 (.cons (.var 3) (.cons (.var 4) .nil)))))) (.cons (.ret (.cst (V.bl false))) .nil) .nil) (.cons (.ifs (.and (.cmp .notin (.call 14 (.cons (.var 3) (.cons (.var 8) .nil))) (.lst (.cons (.var 6) (.cons (.bin .mul (nE 2) (.var 6)) .nil)))) (.cmp .gt (.var 6) (nE 0))) (.cons (.ret (.cst (V.bl false))) .nil) .nil) (.cons (.ifs (.cmp .is (.idx (.var 4) (.var 5)) (.cst V.non)) (.cons (.asg (.name 9) (.bin .add (.bin .add (.sl (.var 4) .nil (.cons (.var 5) .nil)) (.lst (.cons (.bin .sub (nE 1) (.idx (.var 7) (.var 5))) .nil))) (.sl (.var 4) (.cons (.bin .add (.var 5) (nE 1)) .nil) .nil))) (.cons (.ifs (.cmp .ne (.bin .add (.call 14 (.cons (.var 3) (.cons (.var 7) .nil))) (.call 14 (.cons (.var 3) (.cons (.var 9) .nil)))) (.var 6)) (.cons (.ret (.cst (V.bl false))) .nil) .nil) .nil)) .nil) .nil)))))))))))
noncomputable def b39:Ss:=(.cons (.for_ (.name 1) (.rng1 (.blt .max (.cons (nE 1) (.cons (.blt .min (.cons (.blt .len (.cons (.var 0) .nil)) (.cons (nE 12) .nil))) .nil)))) q8) (.cons (.ret (.cst (V.bl true))) .nil))
noncomputable def Fs:List Fn:=Tb.fns.set 23 ⟨2,7,b23⟩
theorem t0:Fs[0]?=some ⟨1,1,b0⟩:=by kernel_rfl
theorem t1:Fs[1]?=some ⟨2,2,b1⟩:=by kernel_rfl
theorem t2:Fs[2]?=some ⟨2,4,b2⟩:=by kernel_rfl
theorem t3:Fs[3]?=some ⟨1,1,b3⟩:=by kernel_rfl
theorem t4:Fs[4]?=some ⟨1,1,b4⟩:=by kernel_rfl
theorem t5:Fs[5]?=some ⟨1,1,b5⟩:=by kernel_rfl
theorem t6:Fs[6]?=some ⟨2,2,b6⟩:=by kernel_rfl
theorem t7:Fs[7]?=some ⟨1,1,b7⟩:=by kernel_rfl
theorem t8:Fs[8]?=some ⟨2,2,b8⟩:=by kernel_rfl
theorem t9:Fs[9]?=some ⟨1,2,b9⟩:=by kernel_rfl
theorem t10:Fs[10]?=some ⟨1,1,b10⟩:=by kernel_rfl
theorem t11:Fs[11]?=some ⟨1,2,b11⟩:=by kernel_rfl
theorem t12:Fs[12]?=some ⟨2,2,b12⟩:=by kernel_rfl
theorem t13:Fs[13]?=some ⟨2,2,b13⟩:=by kernel_rfl
theorem t14:Fs[14]?=some ⟨2,3,b14⟩:=by kernel_rfl
theorem t15:Fs[15]?=some ⟨2,3,b15⟩:=by kernel_rfl
theorem t16:Fs[16]?=some ⟨1,3,b16⟩:=by kernel_rfl
theorem t17:Fs[17]?=some ⟨1,1,b17⟩:=by kernel_rfl
theorem t18:Fs[18]?=some ⟨1,1,b18⟩:=by kernel_rfl
theorem t19:Fs[19]?=some ⟨2,2,b19⟩:=by kernel_rfl
theorem t20:Fs[20]?=some ⟨2,2,b20⟩:=by kernel_rfl
theorem t21:Fs[21]?=some ⟨2,2,b21⟩:=by kernel_rfl
theorem t22:Fs[22]?=some ⟨2,2,b22⟩:=by kernel_rfl
theorem t23:Fs[23]?=some ⟨2,7,b23⟩:=by kernel_rfl
theorem t24:Fs[24]?=some ⟨3,5,b24⟩:=by kernel_rfl
theorem t25:Fs[25]?=some ⟨3,5,b25⟩:=by kernel_rfl
theorem t26:Fs[26]?=some ⟨3,4,b26⟩:=by kernel_rfl
theorem t27:Fs[27]?=some ⟨2,4,b27⟩:=by kernel_rfl
theorem t28:Fs[28]?=some ⟨2,3,b28⟩:=by kernel_rfl
theorem t29:Fs[29]?=some ⟨1,1,b29⟩:=by kernel_rfl
theorem t30:Fs[30]?=some ⟨2,5,b30⟩:=by kernel_rfl
theorem t31:Fs[31]?=some ⟨2,8,b31⟩:=by kernel_rfl
theorem t32:Fs[32]?=some ⟨1,1,b32⟩:=by kernel_rfl
theorem t33:Fs[33]?=some ⟨1,1,b33⟩:=by kernel_rfl
theorem t34:Fs[34]?=some ⟨2,8,b34⟩:=by kernel_rfl
theorem t35:Fs[35]?=some ⟨2,6,b35⟩:=by kernel_rfl
theorem t36:Fs[36]?=some ⟨2,6,b36⟩:=by kernel_rfl
theorem t37:Fs[37]?=some ⟨2,3,b37⟩:=by kernel_rfl
theorem t38:Fs[38]?=some ⟨2,4,b38⟩:=by kernel_rfl
theorem t39:Fs[39]?=some ⟨1,10,b39⟩:=by kernel_rfl
theorem qHV(k f:Nat)(vs:List V)(h:AH):Fk Tb.fns k f vs h=Fk Fs k f vs h:=qAo (d:=⟨2,7,qGu⟩) (b:=b23) qHG (λF σ h=>rfl) k f vs h
noncomputable def Cs:List (List Nat):=[[],[],[],[],[],[],[],[],[],[],[],[],[],[],[],[],[],[],[],[],[],[],[],[],[],[],[],[],[],[],[],[6],[],[],[6],[3],[],[],[],[2]]
theorem gl0:(glT gs)[0]?=some (.tup [N 1,N 2,N 4,N 8,N 16,N 32]):=rfl
section
variable{k:Nat}
noncomputable abbrev I(x:Int):T:=.v (.int x)
noncomputable def stT(g s:Nat):List T:=[N g,N s]
def O9(M:Mem)(n:Nat):Prop:=∃g s,M[n]?=some (stT g s)/\s<2147483648
structure Kept(n:Nat)(M M':Mem):Prop where
 good:O9 M' n
 len:M'.length=M.length
 oth:∀j,j≠n->M'[j]?=M[j]?
theorem Kept.trans{n:Nat}{A B C:Mem}(x:Kept n A B)(y:Kept n B C):Kept n A C:=⟨y.good,y.len.trans x.len,λj hj=>(y.oth j hj).trans (x.oth j hj)⟩
theorem qHH(hk:1<=k){M:Mem}{n m g s:Nat}(hm:0<m/\m<=1000000)(hg:0<g)(e:M[n]?=some [N g,N s])(e':∀y,(M.set n y)[n]?=some y):
  Pk (glT gs) Fs Cs k 28 [.cell n,N m] M=.ok ((N (g % m),true),M.set n [N (g / m),N s]):=by
 rw[qN t28 ⟨rfl,by decide⟩ hk,b28,show Cs.getD 28 []=[] from rfl];simp(disch:=omega) [jm,Jt,e,e',hg];rw[qB (by simp)]
theorem qHf(hk:1<=k){M:Mem}{n m s:Nat}(hm:0<m/\m<=1000000)(e:M[n]?=some [N 0,N s])(e':∀y,(M.set n y)[n]?=some y){s':Nat}(hs':(s*40692+12345) % 2147483399=s')(hq:s'<2147483399):
  Pk (glT gs) Fs Cs k 28 [.cell n,N m] M=.ok ((N (s' * (s' / 1024+7) % 2147483647 / 32 % m),true),M.set n [N 0,N s']):=by
 rw[qN t28 ⟨rfl,by decide⟩ hk,b28,show Cs.getD 28 []=[] from rfl];have ml1:∀{M:Mem}(x:Nat),qg M .mul (N x) (N 40692)=some (N (x*40692),true):=λ{M} x=>Jd (.inr (by decide));have ml3:∀{M:Mem}(y:Nat),qg M .mul (N s') (N y)=some (N (s' * y),true):=λ{M} y=>Jd (.inl (wz hq (by decide)));have md1:∀{M:Mem}(x:Nat),qg M .mod (N x) (N 2147483399)=some (N (x % 2147483399),true):=λ{M} x=>jm (by decide);have md2:∀{M:Mem}(x:Nat),qg M .mod (N x) (N 2147483647)=some (N (x % 2147483647),true):=λ{M} x=>jm (by decide);have md3:∀{M:Mem}(x:Nat),qg M .mod (N x) (N m)=some (N (x % m),true):=λ{M} x=>jm hm.1;have fd1:∀{M:Mem}(x:Nat),qg M .fdiv (N x) (N 1024)=some (N (x / 1024),true):=λ{M} x=>Jt (by decide);have fd2:∀{M:Mem}(x:Nat),qg M .fdiv (N x) (N 32)=some (N (x / 32),true):=λ{M} x=>Jt (by decide);simp[hs',ml1,ml3,md1,md2,md3,fd1,fd2,e,e'];rw[qB (by simp)]
theorem out(hk:1<=k){M:Mem}{n m:Nat}(g:O9 M n)(hm:0<m/\m<=1000000):∃d M',Pk (glT gs) Fs Cs k 28 [.cell n,N m] M=.ok ((N d,true),M')/\d<m/\Kept n M M':=by
 obtain⟨a,s,e,hb⟩:=g;have hn:n<M.length:=(wB.mp e).1;have e':∀y,(M.set n y)[n]?=some y:=λy=>wb hn;rcases Nat.eq_zero_or_pos a with rfl|hp
 ·have hq:(s*40692+12345) % 2147483399<2147483399:=uE _ (by decide);exact⟨_,_,qHf hk hm e e' rfl hq,uE _ hm.1,⟨⟨0,_,e' _,wz hq (by decide)⟩,by simp,λj hj=>by rw[wX (Ne.symm hj)]⟩⟩
 ·exact⟨_,_,qHH hk hm hp e e',uE _ hm.1,⟨⟨a / m,s,e' _,hb⟩,by simp,λj hj=>by rw[wX (Ne.symm hj)]⟩⟩
theorem qFz{M:Mem}:qg M .pow (N 10) (N 18)=some (N 1000000000000000000,true):=by rw[qDQ (by decide)]
theorem qGn(hk:1<=k){S:List T}{kk:Nat}(hkk:kk<=63)(M:Mem){cl:Int}(hc:(kk<S.length/\S[kk]?=some (I cl))\/(S.length<=kk/\cl=0)):∃g s,Pk (glT gs) Fs Cs k 27 [.fz S,N kk] M=.ok ((.lst (stT g s),true),M)/\s<2147483648:=by
 obtain⟨c,hcc⟩:∃c:Nat,cl % 998244353=(c:Int):=⟨(cl % 998244353).toNat,by omega⟩
 have cb:c<998244353:=by omega
 have md:∀{M:Mem},qg M .mod (I cl) (N 998244353)=some (N c,true):=λ{M}=>by
  show qg M .mod (.v (.int cl)) (.v (.int 998244353))=_;rw[qAV (by decide)];unfold iT;rw[hcc];rfl
 have m1:∀{M:Mem},qg M .mul (N 7368787) (N kk)=some (N (7368787*kk),true):=λ{M}=>Jd (.inl (by decide));have pw:∀{M:Mem},qg M .pow (N (c+7368787*kk+17)) (N 3)=some (N ((c+7368787*kk+17) ^ 3),true):=λ{M}=>by
  unfold N;rw[qAj (by omega)];unfold iT;simp
 have md2:∀{M:Mem}(x:Nat),qg M .mod (N x) (N 2147483629)=some (N (x % 2147483629),true):=λ{M} x=>jm (by decide);have hs:(c+7368787*kk+17) ^ 3 % 2147483629<2147483648:=wz (uE _ (by decide)) (by decide);generalize (c+7368787*kk+17) ^ 3=q at pw hs;have ge:∀{M:Mem},zB M .ge (I cl) (N 1000000000000000000)=some (decide (1000000000000000000<=cl)):=λ{M}=>rfl;by_cases hg:(1000000000000000000:Int)<=cl
 ·obtain⟨gn,rfl⟩:∃gn:Nat,cl=(gn:Int):=⟨cl.toNat,by omega⟩
  refine⟨gn,q % 2147483629,?_,hs⟩;rw[uI hg]at ge;rcases hc with⟨h1,h2⟩|⟨h1,h2⟩
  ·have ix:∀{M:Mem},zP M (.fz S) (N kk)=some (I gn,true):=λ{M}=>by
    show ((some S).bind λxs=>(_L.ixN xs.length (kk:Int)).bind λj=>(xs[j]?).map λt=>(t,t.lf))=_;rw[Option.bind_some];unfold _L.ixN;rw[if_pos (by omega),if_pos (by omega),Option.bind_some,vk,h2];rfl
   rw[qN t27 ⟨rfl,by decide⟩ hk,b27,show Cs.getD 27 []=[] from rfl];simp[h1,ix,qFz,ge,md,m1,pw,md2,lim,stT];rw[qB rfl];rfl
  ·omega
 ·rw[uH hg]at ge;refine⟨0,q % 2147483629,?_,hs⟩;rcases hc with⟨h1,h2⟩|⟨h1,h2⟩
  ·have ix:∀{M:Mem},zP M (.fz S) (N kk)=some (I cl,true):=λ{M}=>by
    show ((some S).bind λxs=>(_L.ixN xs.length (kk:Int)).bind λj=>(xs[j]?).map λt=>(t,t.lf))=_;rw[Option.bind_some];unfold _L.ixN;rw[if_pos (by omega),if_pos (by omega),Option.bind_some,vk,h2];rfl
   rw[qN t27 ⟨rfl,by decide⟩ hk,b27,show Cs.getD 27 []=[] from rfl];simp[h1,ix,qFz,ge,md,m1,pw,md2,lim,stT];rw[qB rfl]
  ·subst h2;have h1':¬ kk<S.length:=by omega
   rw[show I 0=N 0 from rfl]at md ge;have ge:∀{M:Mem},zB M .ge (N 0) (N 1000000000000000000)=some false:=λ{M}=>ge;have md:∀{M:Mem},qg M .mod (N 0) (N 998244353)=some (N c,true):=λ{M}=>md;rw[qN t27 ⟨rfl,by decide⟩ hk,b27,show Cs.getD 27 []=[] from rfl];simp[h1',qFz,ge,md,m1,pw,md2,lim,stT,-qFr];rw[qB rfl]
theorem bag(hk:1<=k)(ns:List Int){kk:Nat}(hkk:kk<=63)(M:Mem):∃g s,Pk (glT gs) Fs Cs k 27 [.fz (ns.map λn=>.v (.int n)),N kk] M=.ok ((.lst (stT g s),true),M)/\s<2147483648:=by
 by_cases h:kk<ns.length
 ·exact qGn hk hkk M (cl:=ns[kk]) (.inl ⟨by simpa using h,by rw[wg,wD h];rfl⟩)
 ·exact qGn hk hkk M (cl:=0) (.inr ⟨by simp;omega,rfl⟩)
end
section
variable{k:Nat}
theorem p5{s:Nat}(h:s<=5):2 ^ s<=32:=wS (wo (by decide) h) (by decide)
theorem f0(hk:1<=k)(i:Nat)(M:Mem):Pk (glT gs) Fs Cs k 0 [N i] M=.ok (bT true,M):=by
 rw[qN t0 ⟨rfl,by decide⟩ hk];simp[b0,jY,qB]
theorem f1(hk:2<=k)(i e:Nat)(M:Mem):Pk (glT gs) Fs Cs k 1 [N i,N e] M=.ok (bT (decide (i<e)),M):=by
 rw[qN t1 ⟨rfl,by decide⟩ (by omega)];simp(disch:=omega) [b1,f0,qB]
theorem p3:∀s,s<=5->[N 1,N 2,N 4,N 8,N 16,N 32][s]?=some (N (2 ^ s))
 | 0,_=>rfl|1,_=>rfl|2,_=>rfl|3,_=>rfl|4,_=>rfl|5,_=>rfl
 |n+6,h=>absurd h (Nat.not_le_of_lt (wG (by decide) (Nat.le_add_left 6 n)))
theorem f3(hk:1<=k){s:Nat}(hs:s<=5)(M:Mem):Pk (glT gs) Fs Cs k 3 [N s] M=.ok ((N (2 ^ s),true),M):=by
 rw[qN t3 ⟨rfl,by decide⟩ hk];have h:=p3 s hs;generalize 2 ^ s=q at *;simp[b3,gl0,h,qB]
theorem f4(hk:2<=k){s:Nat}(h1:1<=s)(hs:s<=5)(M:Mem):Pk (glT gs) Fs Cs k 4 [N s] M=.ok (bT true,M):=by
 rw[qN t4 ⟨rfl,by decide⟩ (by omega)];simp(disch:=omega) [b4,f0,h1,hs,qB]
theorem f5(hk:3<=k)(i:Nat)(M:Mem):Pk (glT gs) Fs Cs k 5 [N i] M=.ok (bT (decide (i<2)),M):=by
 rw[qN t5 ⟨rfl,by decide⟩ (by omega)];simp(disch:=omega) [b5,f1,qB]
theorem f6(hk:4<=k){M:Mem}{t:T}{L:List Nat}(h:IsL M t L)(hl:L.length<=1000)(m:Nat):Pk (glT gs) Fs Cs k 6 [t,N m] M=.ok (bT (decide (L.length=m)&&L.all λx=>decide (x<2)),M):=by
 rw[qN t6 ⟨rfl,by decide⟩ (by omega),b6];obtain⟨d,s1,_,s2⟩:=h.src;have c:=Zd (d:=d) (c:=pec (glT gs) (Pk (glT gs) Fs Cs (k-1)) .nil) (e:=pe (glT gs) (Pk (glT gs) Fs Cs (k-1)) (.call 5 (.cons (.var 0) .nil))) (M:=M) (σ:=[]) (λ_=>true) (λx=>.v (.bl (decide (x<2)))) (λ_=>true) L [] true none s2 (by simp[lim];omega) (λx _=>by simp) (λx _ _=>by simp(disch:=omega) [f5,bT]);rw[qm,List.nil_append]at c;by_cases hm:L.length=m
 ·simp[h.ty,jY,h.len,hm,s1,c,qDp,qB]
 ·simp[h.ty,jY,h.len,hm,qB]
end
section
variable{k:Nat}
theorem Kept.refl{n:Nat}{M:Mem}(g:O9 M n):Kept n M M:=⟨g,rfl,λ_ _=>rfl⟩
theorem code(hk:2<=k){M:Mem}{n:Nat}(g:O9 M n):∃s F G f M',Pk (glT gs) Fs Cs k 30 [.cell n,N 5] M=.ok ((.tup [N s,NL F,NL G],f),M')/\Kept n M M'/\(1<=s/\s<=5)/\F≠[]/\(∀x∈F,x<2 ^ s)/\F.Pairwise (·<·)/\F.length+G.length=2 ^ s/\∀x∈G,x<2:=by
 rw[qN t30 ⟨rfl,by decide⟩ (by omega),b30,show Cs.getD 30 []=[] from rfl];obtain⟨d,M1,e1,hd,k1⟩:=out (k:=k-1) (by omega) g (m:=5) (by omega);obtain⟨w,M2,e2,hw,k2⟩:=out (k:=k-1) (by omega) k1.good (m:=6) (by omega);have pe5:2 ^ (1+d)<=32:=wo (n:=2) (by decide) (show 1+d<=5 by omega);have pp:0<2 ^ (1+d):=vg _;have sh:∀{M:Mem},qg M .shl (N 1) (N (1+d))=some (N (2 ^ (1+d)),true):=λ{M}=>by rw[Jk (by omega),vw]
 obtain⟨q,M3,e3,k3,_⟩:=Ju (I:=Kept n M2) (R:=λ_ _=>True) (σ:=[some (.cell n),some (N w)]) (c:=pec (glT gs) (Pk (glT gs) Fs Cs (k-1)) (.cons (.or (.cmp .eq (.var 2) (nE 0)) (.cmp .eq (.call 28 (.cons (.var 1) (.cons (.bin .add (nE 1) (.var 2)) .nil))) (nE 0))) .nil)) (e:=pe (glT gs) (Pk (glT gs) Fs Cs (k-1)) (.var 0)) (List.range (2 ^ (1+d))) [] true none M2 wx (by simp[lim];omega) (Kept.refl k2.good) (λx _ M' hI=>by
  by_cases hw0:w=0
  ·exact⟨true,M',by simp[hw0],hI,trivial⟩
  ·obtain⟨z,M4,e4,hz,k4⟩:=out (k:=k-1) (by omega) hI.good (m:=1+w) (by omega);exact⟨decide (z=0),M4,by simp[hw0,e4],hI.trans k4,trivial⟩) (λx _ M' _=>by simp)
 rw[List.map_nil,List.nil_append]at e3;have rg:qCk (N (2 ^ (1+d)))=some ((List.range (2 ^ (1+d))).map N):=zb (by omega);have last:∀(F:List Nat) (M4:Mem),Kept n M3 M4->F.length<=2 ^ (1+d)->∃G M5,qP [] (.name 0) (pec (glT gs) (Pk (glT gs) Fs Cs (k-1)) .nil) (pe (glT gs) (Pk (glT gs) Fs Cs (k-1)) (.bin .mul (.call 28 (.cons (.var 1) (.cons (nE 2) .nil))) (.blt .int (.cons (.cmp .ne (.var 2) (nE 5)) .nil)))) ((List.range (2 ^ (1+d)-F.length)).map N) [] true [none,some (.cell n),some (N w)] M4=.ok ((NL G,true),M5)/\Kept n M3 M5/\G.length=2 ^ (1+d)-F.length/\∀y∈G,y<2:=λF M4 k4 hF=>by
  obtain⟨G,M5,e5,k5,l5,r5⟩:=Zs (gl:=glT gs) (P:=Pk (glT gs) Fs Cs (k-1)) (e:=pe (glT gs) (Pk (glT gs) Fs Cs (k-1)) (.bin .mul (.call 28 (.cons (.var 1) (.cons (nE 2) .nil))) (.blt .int (.cons (.cmp .ne (.var 2) (nE 5)) .nil)))) (σ:=[some (.cell n),some (N w)]) (I:=Kept n M3) (R:=λy=>y<2) (List.range (2 ^ (1+d)-F.length)) [] true none M4 (by simp[lim];omega) k4 (λx _ M' hI=>by
   obtain⟨z,M6,e6,hz,k6⟩:=out (k:=k-1) (by omega) hI.good (m:=2) (by omega);have ml:∀{M:Mem}(y:Nat),qg M .mul (N z) (N y)=some (N (z*y),true):=λ{M} y=>Jd (.inl (by omega));refine⟨z*(!decide (w=5)).toNat,M6,?_,hI.trans k6,?_⟩
   ·simp[e6,ml]
   ·cases decide (w=5)<;>simp<;>omega)
  rw[List.nil_append]at e5;exact⟨G,M5,e5,k5,by rw[l5];simp,r5⟩
 have sb:∀{M:Mem}(F:List Nat),F.length<=2 ^ (1+d)->qg M .sub (N (2 ^ (1+d))) (N F.length)=some (N (2 ^ (1+d)-F.length),true):=λ{M} F h=>QT h;have eqe:∀{M:Mem}(F:List Nat),zB M .eq (NL F) (.lst [])=some (decide (F=[])):=λ{M} F=>by cases F<;>rfl
 have kk:Kept n M M3:=(k1.trans k2).trans k3;have m0:M3.length=M.length:=kk.len;by_cases hF:(List.range (2 ^ (1+d))).filter q=[]
 ·rw[hF]at e3;obtain⟨z,M4,e4,hz,k4⟩:=out (k:=k-1) (by omega) kk.good (m:=2 ^ (1+d)) (by omega);obtain⟨G,M5,e5,k5,l5,r5⟩:=last [z] M4 k4 (by show 1<=_;exact pp);have sb1:∀{M:Mem},qg M .sub (N (2 ^ (1+d))) (N 1)=some (N (2 ^ (1+d)-1),true):=λ{M}=>QT pp;have rg2:qCk (N (2 ^ (1+d)-1))=some ((List.range (2 ^ (1+d)-1)).map N):=zb (by omega);have n1:T.lst [N z]=NL [z]:=rfl;have e5':=e5;rw[show ([z]:List Nat).length=1 from rfl]at e5';refine⟨1+d,[z],G,false,M5,?_,kk.trans k5,by omega,by simp,by simpa using hz,by simp,by rw[l5];simp;omega,r5⟩;simp[e1,e2,sh,rg,e3,eqe,lim,e4,sb1,rg2,e5',n1,y8];rw[qB (by rw[k5.len,m0])]
 ·have hl:((List.range (2 ^ (1+d))).filter q).length<=2 ^ (1+d):=by
   have:=wy q (List.range (2 ^ (1+d)));simpa using this
  obtain⟨G,M5,e5,k5,l5,r5⟩:=last ((List.range (2 ^ (1+d))).filter q) M3 (Kept.refl kk.good) hl;refine⟨1+d,(List.range (2 ^ (1+d))).filter q,G,false,M5,?_,kk.trans k5,by omega,hF,λx hx=>by have:=(we.mp hx).1;simpa using this,List.Pairwise.filter _ List.pairwise_lt_range,by rw[l5];omega,r5⟩;generalize (List.range (2 ^ (1+d))).filter q=F at *;have rg2:qCk (N (2 ^ (1+d)-F.length))=some ((List.range (2 ^ (1+d)-F.length)).map N):=zb (by omega);simp[e1,e2,sh,rg,e3,eqe,lim,hF,sb F hl,rg2,e5,y8];rw[qB (by rw[k5.len,m0])]
end
end _M
namespace _M
open PySem PySem.Spec _P
open _L (V)
def Il(M:Mem)(t:T)(L:List Nat):Prop:=t=NL L\/∃n,t=.cell n/\M[n]?=some (L.map N)
theorem Il.nl(M:Mem)(L:List Nat):Il M (NL L) L:=.inl rfl
theorem Il.isl{M:Mem}{t:T}{L:List Nat}(h:Il M t L):IsL M t L:=by
 rcases h with rfl|⟨n,rfl,e⟩
 ·exact IsL.nl M L
 ·exact IsL.cell e
theorem Il.app{M C:Mem}{t:T}{L:List Nat}(h:Il M t L):Il (M++C) t L:=by
 rcases h with rfl|⟨n,rfl,e⟩
 ·exact .inl rfl
 ·exact .inr ⟨n,rfl,by rw[wC (wB.mp e).1];exact e⟩
theorem Il.lf{M:Mem}{t:T}{L:List Nat}(h:Il M t L):t.lf=false:=by
 rcases h with rfl|⟨n,rfl,e⟩
 ·unfold NL;simp
 ·simp
theorem Z7{d:QK}{i:Nat}{f:TS->Mem->RSt}{x:T}{r:List T}{σ σ2:TS}{M:Mem}(hd:qe d M=true)(h:f (σ.set i (some x)) M=.ok (.nx σ2,M)):zJ d (.name i) f (x::r) σ M=zJ d (.name i) f r σ2 M:=by
 show PR.bind (f (σ.set i (some x)) M) _=_;rw[h,tD];dsimp only;rw[if_pos hd]
theorem Qp{M:Mem}{t:T}{L:List Nat}(h:IsL M t L)(n:Nat):zB M .notin (N n) t=some (!decide (n∈L)):=by
 have a:zB M .notin (N n) t=zB M .notin (N n) (NL L):=by
  have d1:t.dct=none:=by
   cases t with
   |ob o=>have:=h.its;cases this
   |_=>rfl
  have d2:t.dts=none:=by
   cases t with
   |dt ks ts=>have:=h.its;cases this
   |_=>rfl
  show (inT M (N n) t).map _=(inT M (N n) (NL L)).map _;unfold inT;rw[d1,show (NL L).dct=none from rfl,h.its];dsimp only;rw[d2,show (NL L).dts=none from rfl];rfl
 rw[a,qBv]
theorem qDZ{M:Mem}{t:T}{L:List Nat}(h:IsL M t L)(n:Nat):zB M .inn (N n) t=some (decide (n∈L)):=by
 have:=Qp h n;have e:zB M .notin (N n) t=(zB M .inn (N n) t).map (!·):=rfl;rw[e]at this;cases hh:zB M .inn (N n) t with
 |none=>rw[hh]at this;cases this
 |some b=>
  rw[hh]at this;simp at this;rw[this]
theorem X8{M:Mem}{t:T}{L:List Nat}(h:IsL M t L){v:Nat}(hv:v∈L):D7 false M t (N v)=some (N (L.idxOf v),true):=by
 show (T.lis M t).bind _=_;rw[h.lis,Option.bind_some];show (zX (L.map N)).bind _=_;rw[jl,Option.bind_some,List.findIdx?_map];have:L.findIdx? ((λz=>_L.eqV z (.int (v:Int)))∘λ(n:Nat)=>V.int (n:Int))=some (L.idxOf v):=by
  have e:((λz=>_L.eqV z (.int (v:Int)))∘λ(n:Nat)=>V.int (n:Int))=λn=>n==v:=by
   funext n
   show _L.eqV (.int (n:Int)) (.int (v:Int))=_;have q:_L.eqV (.int (n:Int)) (.int (v:Int))=decide ((n:Int)=(v:Int)):=rfl;rw[q,wl,uJ,beq_iff_eq];omega
  rw[e,List.findIdx?_eq_some_iff_findIdx_eq];exact⟨List.findIdx_lt_length_of_exists ⟨v,hv,by simp⟩,rfl⟩
 rw[this];rfl
def Ris(lo hi:Nat):List Nat->Prop
 | []=>True
 |x::L=>lo<=x/\x<hi/\Ris (x+1) hi L
theorem qAv:∀{L:List Nat}{lo n:Nat},L.Pairwise (·<·)->(∀x∈L,lo<=x/\x<n)->Ris lo n L
 | [],_,_,_,_=>trivial
 |x::L,lo,n,h,hb=>by
  obtain⟨a,b⟩:=List.pairwise_cons.mp h;have hx:=hb x (wU ..);exact⟨hx.1,hx.2,qAv b λy hy=>⟨a y hy,(hb y (wL _ hy)).2⟩⟩
structure Cde(s:Nat)(F X:List Nat):Prop where
 s1:1<=s
 s5:s<=5
 ne:F≠[]
 lt:∀x∈F,x<2 ^ s
 up:F.Pairwise (·<·)
 len:F.length+X.length=2 ^ s
 sg:∀x∈X,x<2
theorem Cde.nd{s:Nat}{F X:List Nat}(h:Cde s F X):F.Nodup:=h.up.imp λz e=>by omega
theorem Cde.oth{s:Nat}{F X:List Nat}(h:Cde s F X):(Cd.oth (2 ^ s) F).length=X.length:=by have:=Cd.oth_len h.nd h.lt;have:=h.len;omega
theorem Cde.n5{s:Nat}{F X:List Nat}(h:Cde s F X):2 ^ s<=32:=p5 h.s5
noncomputable abbrev cdt(s:Nat)(t1 t2:T):T:=.tup [N s,t1,t2]
noncomputable def crd(s:Nat)(F X D:List Nat):List Nat:=(List.range (2 ^ s)).map (Cd.cf F X D)
theorem QX(s:Nat)(F X D:List Nat):(crd s F X D).length=2 ^ s:=by simp[crd]
theorem qBP{s:Nat}{F X D:List Nat}(hX:∀x∈X,x<2)(hD:∀x∈D,x<2):∀x∈crd s F X D,x<2:=λx hx=>by
 obtain⟨p,_,rfl⟩:=wW.mp hx;exact Cd.cf_two hX hD p
section
variable{k:Nat}
theorem f2L(hk:2<=k){M:Mem}{t:T}{d:QK}(hd:qe d M=true):∀(L:List Nat) (lo n:Nat) (o:Option T),Ris lo n L->∃σ',zJ d (.name 3) (pxs (glT gs) (Pk (glT gs) Fs Cs k) [] qEf) (L.map N) [some t,some (N n),some (N lo),o] M=.ok (.nx σ',M)
 | [],lo,n,o,_=>⟨_,rfl⟩
 |x::L,lo,n,o,h=>by
  obtain⟨σ',e⟩:=f2L hk hd (t:=t) L (x+1) n (some (N x)) h.2.2;refine⟨σ',?_⟩;have e1:=f1 (k:=k) hk x n M;rw[uI h.2.1]at e1;have lt:zB M .lt (N x) (N lo)=some false:=by rw[qES,uH (by have:=h.1;omega)]
  have body:pxs (glT gs) (Pk (glT gs) Fs Cs k) [] qEf [some t,some (N n),some (N lo),some (N x)] M=.ok (.nx [some t,some (N n),some (N (x+1)),some (N x)],M):=by
   rw[qEf];simp[e1,lt,-qES,bT]
  rw[List.map_cons,Z7 hd (σ2:=[some t,some (N n),some (N (x+1)),some (N x)]) body];exact e
theorem qCx(hk:3<=k){M:Mem}{t:T}{L:List Nat}(h:IsL M t L){n:Nat}(hr:Ris 0 n L):Pk (glT gs) Fs Cs k 2 [t,N n] M=.ok (bT true,M):=by
 rw[qN t2 ⟨rfl,by decide⟩ (by omega),b2,show Cs.getD 2 []=[] from rfl];obtain⟨d,s1,s2,hd⟩:=h.src;obtain⟨σ',e⟩:=f2L (k:=k-1) (by omega) hd (t:=t) L 0 n none hr;have ty:=h.ty;simp[jY,ty,s1,e,qB]
theorem qBb(hk:5<=k){M:Mem}{s:Nat}{t1 t2:T}{F X:List Nat}(c:Cde s F X)(h1:Il M t1 F)(h2:Il M t2 X):Pk (glT gs) Fs Cs k 9 [cdt s t1 t2] M=.ok (bT true,M):=by
 have n5:=c.n5;rw[qN t9 ⟨rfl,by decide⟩ (by omega),b9,show Cs.getD 9 []=[] from rfl];have l:=c.len;have e4:=f4 (k:=k-1) (by omega) c.s1 c.s5 M;have e3:=f3 (k:=k-1) (by omega) c.s5 M;have e2:=qCx (k:=k-1) (by omega) h1.isl (qAv c.up λx hx=>⟨vU _,c.lt x hx⟩);have e8:=f6 (k:=k-1) (by omega) h2.isl (by omega) X.length;have al:(X.all λx=>decide (x<2))=true:=List.all_eq_true.mpr λx hx=>uI (c.sg x hx);rw[uI rfl,al]at e8;have eq:zB M .eq t1 (.lst [])=some false:=by
  have:=h1.isl.ceq (IsL.nl M []);rw[uH c.ne]at this;exact this
 have sb:qg M .sub (N (2 ^ s)) (N F.length)=some (N X.length,true):=by rw[QT (by omega)];congr 3;omega
 have ln:jS M .len [t1]=some (N F.length,true):=h1.isl.len;have l3:jS M .len [cdt s t1 t2]=some (N 3,true):=by rw[qD1];rfl
 have j0:zP M (cdt s t1 t2) (N 0)=some (N s,true):=by rw[zK];simp
 have j1:zP M (cdt s t1 t2) (N 1)=some (t1,false):=by rw[zK];simp[h1.lf]
 have j2:zP M (cdt s t1 t2) (N 2)=some (t2,false):=by rw[zK];simp[h2.lf]
 have ty:jA M (cdt s t1 t2)=some "tuple":=rfl;clear h1 h2;generalize cdt s t1 t2=CC at *;simp[jY,ty,l3,j0,j1,j2,e4,e3,e2,eq,ln,-qEE,sb,e8,qB]
theorem N5(hk:6<=k){M:Mem}{s:Nat}{t1 t2:T}{F X:List Nat}(c:Cde s F X)(h1:Il M t1 F)(h2:Il M t2 X):Pk (glT gs) Fs Cs k 10 [cdt s t1 t2] M=.ok ((.v .non,true),M):=by
 rw[qN t10 ⟨rfl,by decide⟩ (by omega),b10,show Cs.getD 10 []=[] from rfl];have:=qBb (k:=k-1) (by omega) c h1 h2;generalize cdt s t1 t2=CC at *;simp[this,C6]
theorem qFS(hk:2<=k){M:Mem}{s:Nat}{t1 t2:T}{F X:List Nat}(c:Cde s F X)(h1:Il M t1 F)(h2:Il M t2 X):Pk (glT gs) Fs Cs k 11 [cdt s t1 t2] M=.ok ((.ob (.dct (zA [] (Cd.prs (Cd.oth (2 ^ s) F) X))),true),M):=by
 have n5:=c.n5;have l:=c.len;rw[qN t11 ⟨rfl,by decide⟩ (by omega),b11,show Cs.getD 11 []=[] from rfl];have e3:=f3 (k:=k-1) (by omega) c.s5 M;have j0:zP M (cdt s t1 t2) (N 0)=some (N s,true):=by rw[zK];simp
 have j1:zP M (cdt s t1 t2) (N 1)=some (t1,false):=by rw[zK];simp[h1.lf]
 have j2:zP M (cdt s t1 t2) (N 2)=some (t2,false):=by rw[zK];simp[h2.lf]
 have cc:=zq (c:=pec (glT gs) (Pk (glT gs) Fs Cs (k-1)) (.cons (.cmp .notin (.var 0) (.idx (.var 1) (nE 1))) .nil)) (e:=pe (glT gs) (Pk (glT gs) Fs Cs (k-1)) (.var 0)) (σ:=[some (cdt s t1 t2)]) (M:=M) (o:=none) (its:=List.range (2 ^ s)) (λt=>!decide (t∈F)) (λt=>t) (by simp[lim];omega) (λx _=>by
  have z:=Qp h1.isl x;generalize (!decide (x∈F))=bb at *;generalize cdt s t1 t2=CC at *;simp[j1,z]) (λx _ _=>by simp)
 rw[List.map_id']at cc;have cc:qP [] (.name 0) (pec (glT gs) (Pk (glT gs) Fs Cs (k-1)) (.cons (.cmp .notin (.var 0) (.idx (.var 1) (nE 1))) .nil)) (pe (glT gs) (Pk (glT gs) Fs Cs (k-1)) (.var 0)) ((List.range (2 ^ s)).map N) [] true [none,some (cdt s t1 t2)] M=.ok ((NL (Cd.oth (2 ^ s) F),true),M):=cc;have rg:=zb (n:=2 ^ s) (by omega);have ls:=h2.isl.lis;have lo:(NL (Cd.oth (2 ^ s) F)).lis M=some ((Cd.oth (2 ^ s) F).map N):=rfl;have i1:=qAT (Cd.oth (2 ^ s) F);have i2:=jl X;have fl:(X.map λ(n:Nat)=>V.int (n:Int)).all flat=true:=by simp[flat]
 have lz:((Cd.oth (2 ^ s) F).map λ(n:Nat)=>(n:Int)).length<=lim:=by have:=c.oth;simp[lim];omega
 unfold Cd.prs;clear h1 h2;generalize ((Cd.oth (2 ^ s) F).map λ(n:Nat)=>(n:Int))=Z1 at *;generalize (X.map λ(n:Nat)=>V.int (n:Int))=Z2 at *;generalize (Cd.oth (2 ^ s) F).map N=Z3 at *;generalize NL (Cd.oth (2 ^ s) F)=Z4 at *;generalize cdt s t1 t2=CC at *;simp[j0,e3,rg,cc,j2,ls,lo,i1,i2,fl,lz,qB,-qw,-List.all_eq_true]
end
theorem zD{gl:List T}{P:Nat->List T->Mem->PR (TB×Mem)}{C:List Nat}{s:S}{r:Ss}{σ σ':TS}{M M':Mem}(e:px gl P C s σ M=.ok (.nx σ',M')):pxs gl P C (.cons s r) σ M=pxs gl P C r σ' M':=by
 rw[Zx,e];rfl
theorem qC5{gl:List T}{P:Nat->List T->Mem->PR (TB×Mem)}{C:List Nat}{s:S}{r:Ss}{σ:TS}{t:TB}{M M':Mem}(e:px gl P C s σ M=.ok (.rt t,M')):pxs gl P C (.cons s r) σ M=.ok (.rt t,M'):=by
 rw[Zx,e];rfl
theorem getD_some{L:List Nat}{i:Nat}(h:i<L.length):L[i]?=some (L.getD i 0):=by rw[wY,wD h];rfl
noncomputable def Zb(n i:Nat)(F X E:List Nat):List Nat:=(List.range i).map (Cd.cf F X E)++List.replicate (n-i) 0
theorem qAH{n i:Nat}(h:i<=n)(F X E:List Nat):(Zb n i F X E).length=n:=by unfold Zb;simp;omega
theorem qAF{n i:Nat}(h:i<n)(F X E:List Nat):(Zb n i F X E).set i (Cd.cf F X E i)=Zb n (i+1) F X E:=by
 unfold Zb;rw[List.set_append_right _ _ (by simp),wK,vC,Nat.sub_self,show n-i=(n-(i+1))+1 by omega,List.replicate_succ,List.set_cons_zero,uB,wk];simp
theorem JD(M:Mem)(a b:List T):(M++[a]).set M.length b=M++[b]:=by simp
section
variable{k:Nat}
theorem qDq(hk:1<=k){x:List Nat}(hl:x.length<=1000)(M:Mem):Pk (glT gs) Fs Cs k 32 [NL x] M=.ok ((NL (Nt.word x),true),M):=by
 rw[qN t32 ⟨rfl,by decide⟩ (by omega),b32,show Cs.getD 32 []=[] from rfl];have rg:=zb (n:=x.length) (by omega);have ll:x.length<=lim:=wS hl (by decide);have c:qP [] (.name 0) (pec (glT gs) (Pk (glT gs) Fs Cs (k-1)) .nil) (pe (glT gs) (Pk (glT gs) Fs Cs (k-1)) (.bin .mod (.blt .sum (.cons (.comp (.rng1 (.blt .len (.cons (.var 1) .nil))) [none,some 1,some 0] (.name 0) (.cons (.cmp .eq (.bin .band (.var 0) (.var 2)) (.var 2)) .nil) (.idx (.var 1) (.var 0))) .nil)) (nE 2))) ((List.range x.length).map N) [] true [none,some (NL x)] M=.ok ((NL (Nt.word x),true),M):=by
  refine(qCM (λt=>(((List.range x.length).filter λp=>decide (p&&& t=t)).map λp=>x.getD p 0).sum % 2) (by simpa using ll) λt ht=>?_).trans rfl;have ci:qP [] (.name 0) (pec (glT gs) (Pk (glT gs) Fs Cs (k-1)) (.cons (.cmp .eq (.bin .band (.var 0) (.var 2)) (.var 2)) .nil)) (pe (glT gs) (Pk (glT gs) Fs Cs (k-1)) (.idx (.var 1) (.var 0))) ((List.range x.length).map N) [] true [none,some (NL x),some (N t)] M=.ok ((NL (((List.range x.length).filter λp=>decide (p&&& t=t)).map λp=>x.getD p 0),true),M):=
   zq (λp=>decide (p&&& t=t)) (λp=>x.getD p 0) (by simpa using ll) (λp _=>by simp[Qv]) (λp hp _=>by
    have g1:=(IsL.nl M x).idx (getD_some (wZ.mp hp));generalize x.getD p 0=va at *;simp[y8,g1])
  have sm:=λ{M:Mem}=>(IsL.nl M (((List.range x.length).filter λp=>decide (p&&& t=t)).map λp=>x.getD p 0)).sum;generalize (((List.range x.length).filter λp=>decide (p&&& t=t)).map λp=>x.getD p 0)=w at *;simp only[qEG,qAe,K1,U5,pe_comp,E9,pe_var,Qo,Qc,ZC];simp(disch:=omega) [y8,rg,ci,sm,jm,-qw]
 simp only[Zx,qDE,pe_comp,E9,qAe,K1,U5,pe_var,Qo,Qc,ZC];simp[rg,c,qB,-zO]
theorem lcL{M:Mem}{s:Nat}{t1 t2 t3:T}{F X E:List Nat}(c:Cde s F X)(h1:Il M t1 F)(h2:Il M t2 X)(h3:Il M t3 E)(lE:E.length=F.length){a0:Option T}:∀(m i:Nat) (o:Option T),i+m=2 ^ s ->
  ∃o',zJ [] (.name 5) (pxs (glT gs) (Pk (glT gs) Fs Cs k) [6] g8) ((List.range' i m).map N) [a0,some t3,some (N s),some t1,some t2,o,some (.cell M.length),some (N (Cd.oth i F).length)] (M++[(Zb (2 ^ s) i F X E).map N])=.ok (.nx [a0,some t3,some (N s),some t1,some t2,o',some (.cell M.length),some (N (Cd.oth (2 ^ s) F).length)],M++[(crd s F X E).map N])
 | 0,i,o,h=>⟨o,by rw[show i=2 ^ s by omega];unfold Zb crd;simp[zJ]⟩
 |m+1,i,o,h=>by
  obtain⟨o',e⟩:=lcL c h1 h2 h3 lE (a0:=a0) m (i+1) (some (N i)) (by omega);refine⟨o',?_⟩;have hi:i<2 ^ s:=by omega
  obtain⟨M1,hM1⟩:∃M1,M1=M++[(Zb (2 ^ s) i F X E).map N]:=⟨_,rfl⟩
  have g1:IsL M1 t1 F:=by rw[hM1];exact h1.app.isl
  have g2:IsL M1 t2 X:=by rw[hM1];exact h2.app.isl
  have g3:IsL M1 t3 E:=by rw[hM1];exact h3.app.isl
  have at1:M1[M.length]?=some ((Zb (2 ^ s) i F X E).map N):=by rw[hM1];simp
  have ii:=qDZ g1 i;have pt:qCl M1 (.cell M.length) (N i) (N (Cd.cf F X E i))=some (M++[(Zb (2 ^ s) (i+1) F X E).map N]):=by
   rw[qAw at1 (by rw[wK,qAH (by omega)];exact hi),hM1,JD,<-qAF hi,List.map_set]
  have body:pxs (glT gs) (Pk (glT gs) Fs Cs k) [6] g8 [a0,some t3,some (N s),some t1,some t2,some (N i),some (.cell M.length),some (N (Cd.oth i F).length)] M1=.ok (.nx [a0,some t3,some (N s),some t1,some t2,some (N i),some (.cell M.length),some (N (Cd.oth (i+1) F).length)],M++[(Zb (2 ^ s) (i+1) F X E).map N]):=by
   by_cases hF:i∈F
   ·have ix:=X8 g1 hF;have lt:F.idxOf i<E.length:=by rw[lE];exact List.idxOf_lt_length_iff.mpr hF
    have id3:=g3.idx (getD_some lt);have cf:Cd.cf F X E i=E.getD (F.idxOf i) 0:=by unfold Cd.cf;rw[if_pos hF]
    rw[cf]at pt;have sel:T.sel false M1 t1=some (F.map N):=g1.lis;have on:(Cd.oth (i+1) F).length=(Cd.oth i F).length:=by rw[Cd.oth_succ,if_pos hF,wd]
    rw[uI hF]at ii;rw[g8,on];clear h1 h2 h3 g1 g2 g3;generalize E.getD (F.idxOf i) 0=va at *;generalize M++[(Zb (2 ^ s) (i+1) F X E).map N]=M2 at *;simp[ii,_P.E.isGlob,sel,ix,id3,pt,-qBW]
   ·have on:(Cd.oth (i+1) F).length=(Cd.oth i F).length+1:=by rw[Cd.oth_succ,if_neg hF,wV];rfl
    have lt:(Cd.oth i F).length<X.length:=by
     have a:=c.oth;have b:(Cd.oth (i+1) F).length<=(Cd.oth (2 ^ s) F).length:=by
      have mono:∀d j,(Cd.oth j F).length<=(Cd.oth (j+d) F).length:=by
       intro d
       induction d with
       |zero=>intro j;exact wM _
       |succ d ih=>intro j;rw[show j+(d+1)=(j+d)+1 by omega,Cd.oth_succ,wV];exact wS (ih j) (vc _ _)
      have:=mono (2 ^ s-(i+1)) (i+1);rw[show i+1+(2 ^ s-(i+1))=2 ^ s by omega]at this;exact this
     omega
    have id2:=g2.idx (getD_some lt);have cf:Cd.cf F X E i=X.getD (Cd.oth i F).length 0:=by unfold Cd.cf;rw[if_neg hF]
    rw[cf]at pt;rw[uH hF]at ii;rw[g8,on];clear h1 h2 h3 g1 g2 g3;generalize X.getD (Cd.oth i F).length 0=va at *;generalize (Cd.oth i F).length=oo at *;generalize M++[(Zb (2 ^ s) (i+1) F X E).map N]=M2 at *;simp[ii,id2,pt,-qBW]
  rw[hM1]at body;rw[vG,List.map_cons,jO,show ∀a b c d e f g h z:Option T,[a,b,c,d,e,f,g,h].set 5 z=[a,b,c,d,e,z,g,h] from λ_ _ _ _ _ _ _ _ _=>rfl,body,tD];exact e
theorem qEO(hk:1<=k){M:Mem}(hW:WfM M){s:Nat}{t1 t2 t3:T}{F X E:List Nat}(c:Cde s F X)(h1:Il M t1 F)(h2:Il M t2 X)(h3:Il M t3 E)(lE:E.length=F.length):Pk (glT gs) Fs Cs k 31 [cdt s t1 t2,t3] M=.ok ((NL (crd s F X E),true),M):=by
 have n5:=c.n5;have s5:=c.s5;rw[qN t31 ⟨rfl,by decide⟩ hk,b31,show Cs.getD 31 []=[6] from rfl];obtain⟨o',e⟩:=lcL (k:=k-1) c h1 h2 h3 lE (a0:=some (cdt s t1 t2)) (2 ^ s) 0 none (by omega);rw[<-vH]at e;have rg:=zb (n:=2 ^ s) (by omega);have sl:∀{M:Mem},qg M .shl (N 1) (N s)=some (N (2 ^ s),true):=λ{M}=>by rw[Jk (by omega),vw]
 have cc:=zq (c:=pec (glT gs) (Pk (glT gs) Fs Cs (k-1)) .nil) (e:=pe (glT gs) (Pk (glT gs) Fs Cs (k-1)) (nE 0)) (σ:=[]) (M:=M) (o:=none) (its:=List.range (2 ^ s)) (λ_=>true) (λ_=>0) (by simp[lim];omega) (λx _=>by simp) (λx hx _=>by simp);rw[qm]at cc;have z:(List.range (2 ^ s)).map (λ_=>0)=Zb (2 ^ s) 0 F X E:=by
  unfold Zb;rw[List.range_zero,List.map_nil,List.nil_append,Nat.sub_zero,List.map_const',vC]
 rw[z]at cc;have th:thaw M.length (NL (Zb (2 ^ s) 0 F X E))=(.cell M.length,[(Zb (2 ^ s) 0 F X E).map N]):=S7 _ _;have o0:(Cd.oth 0 F).length=0:=rfl;rw[o0]at e;have lv:=jy (M:=M) (A:=M) (C:=[(crd s F X E).map N]) (c:=M.length) (ts:=(crd s F X E).map N) rfl hW (by simp) (wM _) (m9 _) false;have ps:zN (.tup [2,3,4]) (cdt s t1 t2) [some (cdt s t1 t2),some t3,none,none,none,none,none,none]=some [some (cdt s t1 t2),some t3,some (N s),some t1,some t2,none,none,none]:=rfl;clear h1 h2 h3;generalize (Zb (2 ^ s) 0 F X E).map N=P0 at *;generalize NL (Zb (2 ^ s) 0 F X E)=Z0 at *;show Zz M.length _=.ok ((.lst ((crd s F X E).map N),true),M);generalize (crd s F X E).map N=P1 at *;generalize cdt s t1 t2=CC at *;simp[ps,sl,rg,cc,th,e,-zO];exact lv
end
end _M
namespace _M
open PySem PySem.Spec _P
open _L (V)
theorem L7(M:Mem)(a b:Nat):qg M .bxor (N a) (N b)=some (N (a ^^^ b),true):=by
 show some (iT (Builtin.bitXor (a:Int) (b:Int)))=_;have e:Builtin.bitXor (a:Int) (b:Int)=((a ^^^ b:Nat):Int):=by
  rw[PyProof.Rows.bitXor_and];have h:Builtin.bitAnd (a:Int) (b:Int)=((a&&& b:Nat):Int):=rfl;rw[h];have:=Ft.xor_and a b;omega
 rw[e];rfl
section
variable{k:Nat}
theorem f19(hk:1<=k)(M:Mem)(m n:Nat)(hn:n<=1000):Pk (glT gs) Fs Cs k 19 [N m,N n] M=.ok (bT (m.testBit n),M):=by
 have sh:qg M .shr (N m) (N n)=some (N (m / 2 ^ n),true):=by
  unfold N;rw[qA0 (by omega)];unfold iT;simp
 have an:qg M .band (N (m / 2 ^ n)) (N 1)=some (N (m / 2 ^ n % 2),true):=by rw[Qv,Nat.and_one_is_mod]
 rw[qN t19 ⟨rfl,by decide⟩ hk,b19,show Cs.getD 19 []=[] from rfl,vL];simp[sh,an,qB,bT]
theorem f22(hk:1<=k)(M:Mem)(p q:NP):Pk (glT gs) Fs Cs k 22 [pT p,pT q] M=.ok ((pT (both p q),true),M):=by
 have i0:zP M (pT p) (N 0)=some (N p.1,true):=rfl;have i1:zP M (pT p) (N 1)=some (N p.2,true):=rfl;have j0:zP M (pT q) (N 0)=some (N q.1,true):=rfl;have j1:zP M (pT q) (N 1)=some (N q.2,true):=rfl;have b1:=L7 M p.1 q.1;have b2:=L7 M p.2 q.2;have e:pT (both p q)=.tup [N (p.1 ^^^ q.1),N (p.2 ^^^ q.2)]:=rfl;have l1:T.lf (pT p)=true:=rfl;have l2:T.lf (pT q)=true:=rfl;rw[qN t22 ⟨rfl,by decide⟩ hk,b22,show Cs.getD 22 []=[] from rfl,e];generalize pT p=Y1 at *;generalize pT q=Y2 at *;simp[i0,i1,j0,j1,b1,b2,l1,l2,lim,qB]
theorem qGp{P:Nat->List T->Mem->PR (TB×Mem)}{M:Mem}{a0:T}:∀(its:List Nat) (v:Nat) (o:Option T),∃o',zJ [] (.name 2) (pxs (glT gs) P [] m5) (its.map N) [some a0,some (N v),o] M=.ok (.nx [some a0,some (N (v*2 ^ its.length)),o'],M)
 | [],v,o=>⟨o,by simp[zJ]⟩
 |i::its,v,o=>by
  obtain⟨o',e⟩:=qGp (P:=P) (M:=M) (a0:=a0) its (v+v) (some (N i));refine⟨o',?_⟩;have ad:qg M .add (N v) (N v)=some (N (v+v),true):=Qs v v;have bd:pxs (glT gs) P [] m5 [some a0,some (N v),some (N i)] M=.ok (.nx [some a0,some (N (v+v)),some (N i)],M):=by
   rw[m5];simp[ad]
  rw[List.map_cons,Z7 (d:=[]) rfl (σ2:=[some a0,some (N (v+v)),some (N i)]) bd,e];rw[List.length_cons,Nat.pow_succ,show (v+v)*2 ^ its.length=v*(2 ^ its.length*2) by rw[<-Nat.two_mul,uD 2 v,Nat.mul_assoc,uD 2]]
theorem f16(hk:1<=k)(M:Mem)(n:Nat)(hn:n<=1000):Pk (glT gs) Fs Cs k 16 [N n] M=.ok ((N (2 ^ n),true),M):=by
 obtain⟨o',e⟩:=qGp (P:=Pk (glT gs) Fs Cs (k-1)) (M:=M) (a0:=N n) (List.range n) 1 none;rw[vC,vw]at e;have rg:=zb (n:=n) (by omega);rw[qN t16 ⟨rfl,by decide⟩ hk,b16,show Cs.getD 16 []=[] from rfl];simp[rg,e,qB]
theorem W0:∀{ts:List T}{L:List Nat},qj ts=some L->ts=L.map N
 | [],L,e=>by cases e;rfl
 |t::ts,L,e=>by
  unfold qj at e;split at e
  ·rename_i e1;cases e1
  ·rename_i i r e1;injection e1 with e1 e2;subst e1 e2;split at e
   ·rename_i hi;obtain⟨L',e',rfl⟩:=wA.mp e;rw[W0 e',List.map_cons];congr 1;unfold N;rw[Int.toNat_of_nonneg hi]
   ·cases e
  ·cases e
theorem qC0{M:Mem}{t:T}{L:List Nat}(h:(t.lis M).bind qj=some L):IsL M t L:=by
 obtain⟨ts,e1,e2⟩:=wI.mp h;have:=W0 e2;subst this;cases t with
 |lst xs=>cases e1;exact IsL.nl M L
 |cell n=>exact IsL.cell e1
 |fz xs=>cases e1;exact⟨rfl,rfl,rfl,⟨[],rfl,rfl,rfl⟩,rfl⟩
 |_=>cases e1
theorem f17(hk:2<=k){M:Mem}{t:T}{L:List Nat}(h:IsL M t L)(hL:∀n∈L,n<1000)(hl:L.length<1000):Pk (glT gs) Fs Cs k 17 [t] M=.ok ((N (qK L),true),M):=by
 obtain⟨d,s1,s2,hd⟩:=h.src;have cc:=F3 (d:=d) (c:=pec (glT gs) (Pk (glT gs) Fs Cs (k-1)) .nil) (e:=pe (glT gs) (Pk (glT gs) Fs Cs (k-1)) (.call 16 (.cons (.var 0) .nil))) (σ:=[]) (M:=M) (o:=none) (its:=L) (λ_=>true) (λn=>2 ^ n) hd (by simp[lim];omega) (λx _=>by simp) (λx hx _=>by
  have:=f16 (k:=k-1) (by omega) M x (by have:=hL x hx;omega);simp[this])
 rw[qm]at cc;have sm:=(IsL.nl M (L.map λn=>2 ^ n)).sum;rw[qN t17 ⟨rfl,by decide⟩ (by omega),b17,show Cs.getD 17 []=[] from rfl];unfold qK;generalize NL (L.map λn=>2 ^ n)=Z at *;simp[s1,cc,sm,qB,-zO]
theorem X4{m i:Nat}(hm:m<2 ^ 1000)(hi:i∈List.range (Builtin.Int.intBits (m:Nat))):i<1000:=by
 rw[wZ]at hi;unfold Builtin.Int.intBits at hi;split at hi
 ·omega
 ·rename_i h0;have h0:m≠0:=by simpa using h0
  rw[Int.natAbs_natCast]at hi;have:m.log2<1000:=(Nat.log2_lt h0).mpr hm;omega
theorem f18(hk:2<=k)(M:Mem)(m:Nat)(hm:m<2 ^ 1000):Pk (glT gs) Fs Cs k 18 [N m] M=.ok ((NL (qZ m),true),M):=by
 have bl:Builtin.Int.intBits (m:Nat)<=1000:=by
  refine Decidable.byContradiction λz=>?_;have:=X4 hm (wZ.mpr (show 1000<Builtin.Int.intBits (m:Nat) by omega));omega
 have bb:jS M .bits [N m]=some (N (Builtin.Int.intBits (m:Nat)),true):=rfl;have rg:=zb (n:=Builtin.Int.intBits (m:Nat)) (by omega);have cc:=zq (c:=pec (glT gs) (Pk (glT gs) Fs Cs (k-1)) (.cons (.call 19 (.cons (.var 1) (.cons (.var 0) .nil))) .nil)) (e:=pe (glT gs) (Pk (glT gs) Fs Cs (k-1)) (.var 0)) (σ:=[some (N m)]) (M:=M) (o:=none) (its:=List.range (Builtin.Int.intBits (m:Nat))) (λt=>m.testBit t) (λt=>t) (by simp[lim];omega) (λx hx=>by
  have:=f19 (k:=k-1) (by omega) M m x (by have:=X4 hm hx;omega);generalize m.testBit x=bb at *;simp[this,bT]) (λx _ _=>by simp)
 rw[List.map_id']at cc;have cc:qP [] (.name 0) (pec (glT gs) (Pk (glT gs) Fs Cs (k-1)) (.cons (.call 19 (.cons (.var 1) (.cons (.var 0) .nil))) .nil)) (pe (glT gs) (Pk (glT gs) Fs Cs (k-1)) (.var 0)) ((List.range (Builtin.Int.intBits (m:Nat))).map N) [] true [none,some (N m)] M=.ok ((NL (qZ m),true),M):=cc;rw[qN t18 ⟨rfl,by decide⟩ (by omega),b18,show Cs.getD 18 []=[] from rfl];generalize NL (qZ m)=Z at *;simp[bb,rg,cc,qB,-qw]
end
theorem qHB:∀(f:Nat) (d:Fn),Fs[f]?=some d->ZZ d.body=true->f=23:=by
 intro f d e h;have:∀f<40,∀d,Fs[f]?=some d->ZZ d.body=true->f=23:=by
  intro f hf;have hh:(List.range 40).all (λf=>match Fs[f]? with|some d=>!ZZ d.body||f==23|none=>true)=true:=by kernel_rfl
  rw[List.all_eq_true]at hh;intro d e h;have:=hh f (wZ.mpr hf);rw[e]at this;simpa [h] using this
 exact this f (by have:=(wB.mp e).1;exact this) d e h
theorem qDM:Z9 (glT gs) Fs Cs 23 24 19 22 18 17 where
 eso:=t23
 epi:=t24
 only:=qHB
 phm:=λj M m n hj hn=>f19 (by omega) M m n hn
 pbs:=λj M p q hj=>⟨true,f22 (by omega) M p q⟩
 pno:=λj M m hj hm=>⟨true,f18 (by omega) M m hm⟩
 pmk:=λj M t L hj h hL hl=>⟨true,f17 (by omega) (qC0 h) hL hl⟩
end _M
namespace _M
open PySem PySem.Spec _P
open _L (V)
theorem qD4(b:Bool):b.toNat<2:=by cases b<;>decide
theorem L4{M:Mem}:zB M .is (.v .non) (.v .non)=some true:=rfl
theorem qEk{M:Mem}(x:Nat):zB M .is (N x) (.v .non)=some false:=rfl
noncomputable def cmE(S cm:Nat->Bool)(t:Nat):T:=if S t then .v .non else N (cm t).toNat
noncomputable def cmT(n:Nat)(S cm:Nat->Bool):T:=.lst ((List.range n).map (cmE S cm))
theorem K2(S cm:Nat->Bool)(t:Nat):(cmE S cm t).lf=true:=by unfold cmE;split<;>simp
theorem A0{S cm:Nat->Bool}{t:Nat}(h:S t=false):cmE S cm t=N (cm t).toNat:=by unfold cmE;rw[h];rfl
theorem R9{M:Mem}(n:Nat)(S cm:Nat->Bool):jS M .len [cmT n S cm]=some (N n,true):=by
 unfold cmT;rw[qAr];simp
theorem K5{M:Mem}{n:Nat}{S cm:Nat->Bool}{t:Nat}(h:t<n):zP M (cmT n S cm) (N t)=some (cmE S cm t,true):=by
 unfold cmT;rw[QC,wg,ve h];simp[K2]
theorem ZS{α:Type}{c:TS->Mem->PR (Bool×Mem)}{e:TS->Mem->PR (TB×Mem)}{M:Mem}{σ:TS}(g h:α->T)(p fr:α->Bool):∀(its:List α) (ys:List T) (b:Bool) (o:Option T),ys.length+its.length<=lim ->
  (∀x∈its,c (some (g x)::σ) M=.ok (p x,M))->(∀x∈its,p x=true->e (some (g x)::σ) M=.ok ((h x,fr x),M)) ->
  qP [] (.name 0) c e (its.map g) ys b (o::σ) M=.ok ((.lst (ys++(its.filter p).map h),b&&(its.filter p).all fr),M)
 | [],ys,b,o,hl,hc,he=>by simp[qP]
 |x::r,ys,b,o,hl,hc,he=>by
  simp only[List.length_cons]at hl;rw[List.map_cons,qP,show zN (.name 0) (g x) (o::σ)=some (some (g x)::σ) from rfl];dsimp only;rw[hc x (by simp),tD];cases hp:p x with
  |false=>
   have:=ZS g h p fr r ys b (some (g x)) (by omega) (λy hy=>hc y (by simp[hy])) (λy hy=>he y (by simp[hy]));rw[List.filter_cons,hp];simpa [qe] using this
  |true=>
   have:=ZS g h p fr r (ys++[h x]) (b&&fr x) (some (g x)) (by simp;omega) (λy hy=>hc y (by simp[hy])) (λy hy=>he y (by simp[hy]));rw[if_pos rfl,he x (by simp) hp,tD];dsimp only;rw[if_pos ⟨by omega,rfl⟩,this,List.filter_cons,hp];simp[vo]
theorem Js{α:Type}{c:TS->Mem->PR (Bool×Mem)}{e:TS->Mem->PR (TB×Mem)}{M:Mem}{σ:TS}(g g' h:α->T)(p fr:α->Bool):∀(its:List α) (ys:List T) (b:Bool) (o o':Option T),ys.length+its.length<=lim ->
  (∀x∈its,c (some (g x)::some (g' x)::σ) M=.ok (p x,M))->(∀x∈its,p x=true->e (some (g x)::some (g' x)::σ) M=.ok ((h x,fr x),M)) ->
  qP [] (.tup [0,1]) c e (its.map λx=>.tup [g x,g' x]) ys b (o::o'::σ) M=.ok ((.lst (ys++(its.filter p).map h),b&&(its.filter p).all fr),M)
 | [],ys,b,o,o',hl,hc,he=>by simp[qP]
 |x::r,ys,b,o,o',hl,hc,he=>by
  simp only[List.length_cons]at hl;rw[List.map_cons,qP,show zN (.tup [0,1]) (.tup [g x,g' x]) (o::o'::σ)=some (some (g x)::some (g' x)::σ) from rfl];dsimp only;rw[hc x (by simp),tD];cases hp:p x with
  |false=>
   have:=Js g g' h p fr r ys b (some (g x)) (some (g' x)) (by omega) (λy hy=>hc y (by simp[hy])) (λy hy=>he y (by simp[hy]));rw[List.filter_cons,hp];simpa [qe] using this
  |true=>
   have:=Js g g' h p fr r (ys++[h x]) (b&&fr x) (some (g x)) (some (g' x)) (by simp;omega) (λy hy=>hc y (by simp[hy])) (λy hy=>he y (by simp[hy]));rw[if_pos rfl,he x (by simp) hp,tD];dsimp only;rw[if_pos ⟨by omega,rfl⟩,this,List.filter_cons,hp];simp[vo]
noncomputable def fxN(F X:List Nat)(p:Nat):Nat:=X.getD (Cd.oth p F).length 0
noncomputable def fxB(F X:List Nat)(p:Nat):Bool:=decide (fxN F X p=1)
noncomputable def frB(F:List Nat)(p:Nat):Bool:=decide (p∈F)
noncomputable def fxD(s:Nat)(F X:List Nat):List (Int×V):=zA [] (Cd.prs (Cd.oth (2 ^ s) F) X)
theorem qAX{s:Nat}{F X:List Nat}(c:Cde s F X):fxD s F X=Cd.prs (Cd.oth (2 ^ s) F) X:=by
 unfold fxD;rw[Cd.merge_new _ [] (by rw[List.nil_append,Cd.prs_keys c.oth];exact Cd.nodup_int (Cd.oth_nodup _ _)),List.nil_append]
theorem U4{s:Nat}{F X:List Nat}(c:Cde s F X){p:Nat}(hp:p<2 ^ s)(hf:p∉F):QI (fxD s F X) p=some (.int ((fxN F X p:Nat):Int)):=by
 rw[qAX c,Cd.get_some c.oth (Cd.mem_oth.mpr ⟨hp,hf⟩),Cd.oth_idx hp hf];rfl
theorem y9{s:Nat}{F X:List Nat}(c:Cde s F X){p:Nat}(hf:p∈F):QI (fxD s F X) p=none:=by
 rw[qAX c];exact Cd.get_none c.oth λz=>(Cd.mem_oth.mp z).2 hf
theorem qAE(kvs:List (Int×V))(i:Int):Qz kvs i=(QI kvs i).isSome:=by
 unfold Qz QI
 induction kvs with
 |nil=>rfl
 |cons x r ih=>
  rw[List.any_cons,List.find?_cons];cases decide (x.1=i)
  ·rw[Bool.false_or];exact ih
  ·rfl
theorem qF2{M:Mem}{s:Nat}{F X:List Nat}(c:Cde s F X){p:Nat}(hp:p<2 ^ s):zB M .inn (N p) (.ob (.dct (fxD s F X)))=some (!frB F p):=by
 show some (Qz (fxD s F X) (p:Int))=_;rw[qAE];unfold frB;by_cases h:p∈F
 ·rw[y9 c h,uI h];rfl
 ·rw[U4 c hp h,uH h];rfl
theorem qF0{s:Nat}{F X:List Nat}(c:Cde s F X){p:Nat}(hp:p<2 ^ s)(hf:frB F p=false):qEd (.ob (.dct (fxD s F X))) (N p)=some (N (fxN F X p),true):=by
 show (QI (fxD s F X) (p:Int)).bind _=_;rw[U4 c hp (of_decide_eq_false hf)];rfl
theorem qBF{s:Nat}{F X:List Nat}(c:Cde s F X)(p:Nat):fxN F X p=(fxB F X p).toNat:=by
 unfold fxB;have:fxN F X p<2:=by
  unfold fxN;rw[wY];cases e:X[(Cd.oth p F).length]? with
  |none=>decide
  |some x=>exact c.sg x (wT e)
 generalize fxN F X p=x at *;rcases(by omega:x=0\/x=1) with rfl|rfl<;>rfl
section
variable{k:Nat}
theorem qCO(hk:4<=k){n:Nat}(hn:n<=100)(S cm:Nat->Bool)(M:Mem):Pk (glT gs) Fs Cs k 12 [cmT n S cm,N n] M=.ok (bT true,M):=by
 rw[qN t12 ⟨rfl,by decide⟩ (by omega),b12,show Cs.getD 12 []=[] from rfl];have c:=ZS (c:=pec (glT gs) (Pk (glT gs) Fs Cs (k-1)) .nil) (e:=pe (glT gs) (Pk (glT gs) Fs Cs (k-1)) (.or (.cmp .is (.var 0) (.cst V.non)) (.call 5 (.cons (.var 0) .nil)))) (M:=M) (σ:=[]) (cmE S cm) (λ_=>T.v (.bl true)) (λ_=>true) (λ_=>true) (List.range n) [] true none (by simp[lim];omega) (λx _=>by simp) (λx _ _=>by
  have e7:=f5 (k:=k-1) (by omega) (cm x).toNat M;rw[uI (qD4 _)]at e7;unfold cmE;cases S x
  ·simp[qEk,e7,bT]
  ·simp[L4,bT])
 rw[qm,List.nil_append,show ((List.range n).all λ_=>true)=true from List.all_eq_true.mpr λ_ _=>rfl]at c;have al:=λM=>qDp (M:=M) (λ_=>true) (List.range n);rw[show ((List.range n).all λ_=>true)=true from List.all_eq_true.mpr λ_ _=>rfl]at al;have ln:=R9 (M:=M) n S cm;have ty:jA M (cmT n S cm)=some "list":=rfl;have sr:ZE M (cmT n S cm)=some ((List.range n).map (cmE S cm),[]):=rfl;generalize (List.range n).map (cmE S cm)=Z at *;generalize (List.range n).map (λ_=>T.v (.bl true))=Z2 at *;generalize cmT n S cm=Z3 at *;simp[jY,ty,ln,sr,c,al,qB,-zO]
theorem O6(hk:5<=k){s:Nat}(hs:s<=5)(S cm:Nat->Bool)(M:Mem):Pk (glT gs) Fs Cs k 13 [N s,cmT (2 ^ s) S cm] M=.ok ((.v .non,true),M):=by
 have n5:=p5 hs;rw[qN t13 ⟨rfl,by decide⟩ (by omega),b13,show Cs.getD 13 []=[] from rfl];have e:=qCO (k:=k-1) (by omega) (n:=2 ^ s) (by omega) S cm M;have e3:=f3 (k:=k-1) (by omega) hs M;generalize cmT (2 ^ s) S cm=Z at *;simp[e,e3,C6,bT]
end
noncomputable def P9(n t:Nat):List Nat:=(List.range n).filter λp=>decide (p&&& t=t)
noncomputable def sm(n t:Nat):NP:=(qK (P9 n t),2 ^ t)
noncomputable def T5(n:Nat)(S:Nat->Bool):List Nat:=(List.range n).filter λt=>!S t
noncomputable def sms(n:Nat)(S:Nat->Bool):List NP:=(T5 n S).map (sm n)
theorem D3{n t p:Nat}(h:p∈P9 n t):p<n:=wZ.mp (we.mp h).1
theorem Q3(n t:Nat):(P9 n t).length<=n:=by
 have:=wy (λp=>decide (p&&& t=t)) (List.range n);rw[vC]at this;exact this
theorem i8:∀ps:List NP,T.lfs (ps.map pT)=true
 | []=>rfl
 |p::ps=>by rw[List.map_cons,T.lfs,i8 ps];rfl
theorem G2:∀{L:List Nat},(∀n∈L,n<32)->qK L<=L.length*2 ^ 31
 | [],_=>by simp[qK]
 |n::L,h=>by
  have i:=G2 (L:=L) λm hm=>h m (by simp[hm]);have a:2 ^ n<=2 ^ 31:=wo (by decide) (by have:=h n (by simp);omega);unfold qK at *;rw[List.map_cons,List.sum_cons,List.length_cons];omega
theorem W1{L:List Nat}(h:∀n∈L,n<32)(hl:L.length<=32):qK L<2 ^ 1000:=by
 have:=G2 h;have a:L.length*2 ^ 31<=32*2 ^ 31:=Nat.mul_le_mul_right _ hl;have b:(32*2 ^ 31:Nat)<2 ^ 1000:=wG (show 32*2 ^ 31<2 ^ 37 by decide) (wo (by decide) (by decide));omega
theorem qDi{gl:List T}{tb:List Fn}{Cs:List (List Nat)}{k f np ns:Nat}{b:Ss}{vs:List T}{M:Mem}(ht:tb[f]?=some ⟨np,ns,.cons .orc b⟩)(hk:9<=k):Pk gl tb Cs k f vs M=qD6 vs M:=by
 obtain⟨k,rfl⟩:∃j,k=j+1:=⟨k-1,by omega⟩
 rw[Pk,ht];dsimp only;rw[show ZZ (.cons .orc b)=true from rfl,if_pos rfl,if_pos (by omega)]
theorem F0:∀ps:List NP,(ps.map pT).mapM jE=some ps
 | []=>rfl
 |p::ps=>by
  have h:jE (pT p)=some p:=by
   show (match qj [nmT p.1,nmT p.2] with|some [a,b]=>some (a,b)|_=>none)=_;have e:qj [nmT p.1,nmT p.2]=some [p.1,p.2]:=by
    unfold nmT;rw[qj,if_pos (vh _),qj,if_pos (vh _)];rfl
   rw[e]
  rw[List.map_cons,vn,h,F0 ps];rfl
theorem qAy:∀L:List Nat,qj (L.map N)=some L
 | []=>rfl
 |n::L=>by
  rw[List.map_cons];unfold N;rw[qj,if_pos (vh _),show (λ(n:Nat)=>T.v (.int (n:Int)))=N from rfl,qAy L];rfl
theorem qBy{M:Mem}(told:List (Nat×NP)):jS M .len [Q0 told]=some (N told.length,true):=by
 unfold Q0;cases told with
 |nil=>rfl
 |cons q r=>
  rw[if_neg (by simp)];show some (iT (((q::r).map λq=>((q.1:Nat):Int)).length:Nat))=_;rw[wK];rfl
section
variable{k:Nat}
theorem f8(hk:1<=k)(M:Mem)(p t:Nat):Pk (glT gs) Fs Cs k 8 [N p,N t] M=.ok (bT (decide (p&&& t=t)),M):=by
 rw[qN t8 ⟨rfl,by decide⟩ hk,b8,show Cs.getD 8 []=[] from rfl];simp[Qv,qB,bT]
theorem f20(hk:3<=k)(M:Mem){s t:Nat}(hs:s<=5)(ht:t<=1000):Pk (glT gs) Fs Cs k 20 [N s,N t] M=.ok ((pT (sm (2 ^ s) t),true),M):=by
 have n5:=p5 hs;have e3:=f3 (k:=k-1) (by omega) hs M;have rg:=zb (n:=2 ^ s) (by omega);have cc:=zq (c:=pec (glT gs) (Pk (glT gs) Fs Cs (k-1)) (.cons (.call 8 (.cons (.var 0) (.cons (.var 1) .nil))) .nil)) (e:=pe (glT gs) (Pk (glT gs) Fs Cs (k-1)) (.var 0)) (σ:=[some (N t)]) (M:=M) (o:=none) (its:=List.range (2 ^ s)) (λp=>decide (p&&& t=t)) (λp=>p) (by simp[lim];omega) (λp hx=>by
  have:=f8 (k:=k-1) (by omega) M p t;generalize decide (p&&& t=t)=bb at *;simp[this,bT]) (λx _ _=>by simp)
 rw[List.map_id']at cc;have cc:qP [] (.name 0) (pec (glT gs) (Pk (glT gs) Fs Cs (k-1)) (.cons (.call 8 (.cons (.var 0) (.cons (.var 1) .nil))) .nil)) (pe (glT gs) (Pk (glT gs) Fs Cs (k-1)) (.var 0)) ((List.range (2 ^ s)).map N) [] true [none,some (N t)] M=.ok ((NL (P9 (2 ^ s) t),true),M):=cc;have e17:=f17 (k:=k-1) (by omega) (IsL.nl M (P9 (2 ^ s) t)) (λp hp=>by have:=D3 hp;omega) (by have:=Q3 (2 ^ s) t;omega);have e16:=f16 (k:=k-1) (by omega) M t ht;have e:pT (sm (2 ^ s) t)=.tup [N (qK (P9 (2 ^ s) t)),N (2 ^ t)]:=rfl;rw[qN t20 ⟨rfl,by decide⟩ (by omega),b20,show Cs.getD 20 []=[] from rfl,e];generalize NL (P9 (2 ^ s) t)=Z at *;generalize qK (P9 (2 ^ s) t)=W at *;generalize 2 ^ t=W2 at *;simp[e3,rg,cc,e17,e16,lim,qB,-qw]
theorem qBQ{M:Mem}(n:Nat)(S cm:Nat->Bool):qAi M (cmT n S cm)=some ((List.range n).map (cmE S cm),[]):=rfl
theorem Jf(f:Nat->T):∀(m i:Nat),jt i ((List.range' i m).map f)=(List.range' i m).map λt=>.tup [N t,f t]
 | 0,i=>rfl
 |m+1,i=>by
  rw[vG,List.map_cons,jt,List.map_cons,Jf f m (i+1)];rfl
theorem f21(hk:4<=k)(M:Mem){s:Nat}{t1 t2:T}(hs:s<=5)(S cm:Nat->Bool):Pk (glT gs) Fs Cs k 21 [cdt s t1 t2,cmT (2 ^ s) S cm] M=.ok ((.lst ((sms (2 ^ s) S).map pT),true),M):=by
 have n5:=p5 hs;have j0:zP M (cdt s t1 t2) (N 0)=some (N s,true):=by rw[zK];simp
 have sr:(jt 0 ((List.range (2 ^ s)).map (cmE S cm)))=(List.range (2 ^ s)).map λt=>.tup [N t,cmE S cm t]:=by
  rw[vH];exact Jf _ _ 0
 have cc:=Js (c:=pec (glT gs) (Pk (glT gs) Fs Cs (k-1)) (.cons (.cmp .isnot (.var 1) (.cst V.non)) .nil)) (e:=pe (glT gs) (Pk (glT gs) Fs Cs (k-1)) (.call 20 (.cons (.idx (.var 2) (nE 0)) (.cons (.var 0) .nil)))) (M:=M) (σ:=[some (cdt s t1 t2)]) N (cmE S cm) (λt=>pT (sm (2 ^ s) t)) (λt=>!S t) (λ_=>true) (List.range (2 ^ s)) [] true none none (by simp[lim];omega) (λt ht=>by
  have e:zB M .isnot (cmE S cm t) (.v .non)=some (!S t):=by
   unfold cmE;cases S t<;>rfl
  generalize cmE S cm t=Z at *;generalize S t=Z2 at *;generalize cdt s t1 t2=CC at *;simp[e]) (λt ht _=>by
  have e20:=f20 (k:=k-1) (by omega) M hs (show t<=1000 by have:=wZ.mp ht;omega);generalize pT (sm (2 ^ s) t)=Z at *;generalize cmE S cm t=Z3 at *;generalize cdt s t1 t2=CC at *;simp[j0,e20])
 rw[List.nil_append,show (((List.range (2 ^ s)).filter λt=>!S t).all λ_=>true)=true from List.all_eq_true.mpr λ_ _=>rfl]at cc;have ee:(sms (2 ^ s) S).map pT=((List.range (2 ^ s)).filter λt=>!S t).map λt=>pT (sm (2 ^ s) t):=by unfold sms T5;rw[vI];rfl
 have so:=qBQ (M:=M) (2 ^ s) S cm;rw[qN t21 ⟨rfl,by decide⟩ (by omega),b21,show Cs.getD 21 []=[] from rfl,ee];generalize (((List.range (2 ^ s)).filter λt=>!S t).map λt=>pT (sm (2 ^ s) t))=Z at *;generalize cmT (2 ^ s) S cm=Z2 at *;generalize cdt s t1 t2=CC at *;simp[so,sr,cc,qB,-qw]
theorem f23(hk:9<=k){M:Mem}{s:Nat}{t1 t2:T}{F X:List Nat}(c:Cde s F X)(h1:Il M t1 F){ps:List NP}(hp:ps.length<1000):Pk (glT gs) Fs Cs k 23 [cdt s t1 t2,.lst (ps.map pT)] M=.ok ((.tup [Q0 (Qq (qK F) ps).1,.lst ((Qq (qK F) ps).2.map pT)],false),M):=by
 have n5:=c.n5;have l:=c.len;have hF:∀n∈F,n<32:=λn hn=>wG (c.lt n hn) n5;rw[qDi (b:=qCi 17 24) t23 hk];unfold qD6;dsimp only;have e1:((cdt s t1 t2).its M).bind (λxs=>(xs[1]?).bind λt=>(t.lis M).bind qj)=some F:=by
  show (t1.lis M).bind qj=some F;rw[h1.isl.lis,Option.bind_some,qAy]
 have e2:(T.lst (ps.map pT)).lst0.bind (λxs=>xs.mapM jE)=some ps:=F0 ps;rw[e1];show PR.bind (tH ((T.lst (ps.map pT)).lst0.bind (λxs=>xs.mapM jE))) _=_;rw[e2];show (if _ then _ else _)=_;rw[if_pos ⟨by rw[List.all_eq_true];exact λn hn=>uI (by have:=hF n hn;omega),W1 hF (by omega),hp,by omega⟩]
end
noncomputable def sgn(n:Nat)(F X:List Nat)(cm:Nat->Bool)(l:NP):Nat:=((((qZ l.1).filter λp=>!frB F p).map (fxN F X)).sum+((qZ l.2).map λt=>(cm t).toNat).sum) % 2
section
variable{k:Nat}
theorem f7(hk:1<=k)(L:List Nat)(M:Mem):Pk (glT gs) Fs Cs k 7 [NL L] M=.ok ((N (L.sum % 2),true),M):=by
 have sm:=(IsL.nl M L).sum;have md:qg M .mod (N L.sum) (N 2)=some (N (L.sum % 2),true):=jm (by decide);rw[qN t7 ⟨rfl,by decide⟩ hk,b7,show Cs.getD 7 []=[] from rfl];generalize NL L=Z at *;simp[sm,md,qB]
structure OkP(n:Nat)(S:Nat->Bool)(l:NP):Prop where
 p:l.1<2 ^ n
 s:l.2<2 ^ n
 k:∀t,l.2.testBit t=true->S t=false
theorem OkP.pb{n:Nat}{S:Nat->Bool}{l:NP}(o:OkP n S l){p:Nat}(h:p∈qZ l.1):p<n:=by
 refine Decidable.byContradiction λz=>?_;have:=vS (x:=l.1) (i:=p) (wG o.p (wo (by decide) (by omega)));rw[bits_mem.mp h]at this;cases this
theorem OkP.sb{n:Nat}{S:Nat->Bool}{l:NP}(o:OkP n S l){p:Nat}(h:p∈qZ l.2):p<n:=by
 refine Decidable.byContradiction λz=>?_;have:=vS (x:=l.2) (i:=p) (wG o.s (wo (by decide) (by omega)));rw[bits_mem.mp h]at this;cases this
theorem K8{m n:Nat}(h:m<2 ^ n):(qZ m).length<=n:=by
 unfold qZ;refine wS (wy _ _) ?_;rw[vC];unfold Builtin.Int.intBits;split
 ·omega
 ·rename_i h0;have h0:m≠0:=by simpa using h0
  rw[Int.natAbs_natCast];have:m.log2<n:=(Nat.log2_lt h0).mpr h;omega
theorem qAb{m n:Nat}(hn:n<=32)(h:m<2 ^ n):m<2 ^ 1000:=wG h (wo (by decide) (by omega))
theorem f25(hk:4<=k){M:Mem}{s:Nat}{t1 t2:T}{F X:List Nat}{S cm:Nat->Bool}(c:Cde s F X)(h1:Il M t1 F)(h2:Il M t2 X){l:NP}(o:OkP (2 ^ s) S l):Pk (glT gs) Fs Cs k 25 [cdt s t1 t2,cmT (2 ^ s) S cm,pT l] M=.ok ((N (sgn (2 ^ s) F X cm l),true),M):=by
 have n5:=c.n5;have e11:=qFS (k:=k-1) (by omega) c h1 h2;rw[show zA [] (Cd.prs (Cd.oth (2 ^ s) F) X)=fxD s F X from rfl]at e11;have e18:=f18 (k:=k-1) (by omega) M l.1 (qAb n5 o.p);have e18':=f18 (k:=k-1) (by omega) M l.2 (qAb n5 o.s);have l1:=K8 o.p;have l2:=K8 o.s;have c1:=zq (c:=pec (glT gs) (Pk (glT gs) Fs Cs (k-1)) (.cons (.cmp .inn (.var 0) (.var 1)) .nil)) (e:=pe (glT gs) (Pk (glT gs) Fs Cs (k-1)) (.dix (.var 1) (.var 0))) (σ:=[some (T.ob (.dct (fxD s F X)))]) (M:=M) (o:=none) (its:=qZ l.1) (λp=>!frB F p) (fxN F X) (by simp[lim];omega) (λp hp=>by
  have:=qF2 (M:=M) c (o.pb hp);simp[this]) (λp hp hf=>by
  have:=qF0 c (o.pb hp) (by simpa using hf);simp[this])
 have c2:=zq (c:=pec (glT gs) (Pk (glT gs) Fs Cs (k-1)) .nil) (e:=pe (glT gs) (Pk (glT gs) Fs Cs (k-1)) (.idx (.var 1) (.var 0))) (σ:=[some (cmT (2 ^ s) S cm)]) (M:=M) (o:=none) (its:=qZ l.2) (λ_=>true) (λt=>(cm t).toNat) (by simp[lim];omega) (λx _=>by simp) (λt ht _=>by
  have:=K5 (M:=M) (S:=S) (cm:=cm) (o.sb ht);rw[A0 (o.k t (bits_mem.mp ht))]at this;generalize cmT (2 ^ s) S cm=Z at *;simp[this])
 rw[qm]at c2;have a1:qg M .add (NL (((qZ l.1).filter λp=>!frB F p).map (fxN F X))) (NL ((qZ l.2).map λt=>(cm t).toNat))=some (NL (((qZ l.1).filter λp=>!frB F p).map (fxN F X)++(qZ l.2).map λt=>(cm t).toNat),true):=by
  refine qEs ?_;have:=wy (λp=>!frB F p) (qZ l.1);simp[lim];omega
 have e7:=f7 (k:=k-1) (by omega) (((qZ l.1).filter λp=>!frB F p).map (fxN F X)++(qZ l.2).map λt=>(cm t).toNat) M;rw[List.sum_append]at e7;have i0:zP M (pT l) (N 0)=some (N l.1,true):=rfl;have i1:zP M (pT l) (N 1)=some (N l.2,true):=rfl;have lp:T.lf (pT l)=true:=rfl;have s1:∀L:List Nat,ZE M (NL L)=some (L.map N,[]):=λL=>rfl;rw[qN t25 ⟨rfl,by decide⟩ (by omega),b25,show Cs.getD 25 []=[] from rfl];unfold sgn;have s2:=s1 (qZ l.1);have s3:=s1 (qZ l.2);clear s1;generalize NL (((qZ l.1).filter λp=>!frB F p).map (fxN F X)++(qZ l.2).map λt=>(cm t).toNat)=Z1 at *;generalize NL (((qZ l.1).filter λp=>!frB F p).map (fxN F X))=Z2 at *;generalize NL ((qZ l.2).map λt=>(cm t).toNat)=Z3 at *;generalize ((((qZ l.1).filter λp=>!frB F p).map (fxN F X)).sum+((qZ l.2).map λt=>(cm t).toNat).sum) % 2=V at *;generalize T.ob (.dct (fxD s F X))=Z4 at *;generalize (qZ l.1).map N=B1 at *;generalize (qZ l.2).map N=B2 at *;generalize NL (qZ l.1)=Y1 at *;generalize NL (qZ l.2)=Y2 at *;generalize pT l=LL at *;generalize cmT (2 ^ s) S cm=CM at *;clear h1 h2;generalize cdt s t1 t2=CC at *;simp[e11,i0,i1,e18,e18',s2,s3,c1,c2,a1,e7,qB,-qw,-zO]
end
end _M
namespace _M
open PySem PySem.Spec _P
open _L (V)
open Ft (xl zH kx zh)
noncomputable def CT(s:Nat)(F X:List Nat)(S cm:Nat->Bool):Nat:=zh F λx=>(sms (2 ^ s) S).all λl=>!zH (2 ^ s) (kx F (fxB F X) x) cm l
theorem O1(m:Nat):(qZ m).Nodup:=wx.filter _
theorem k7{m n:Nat}(h:m<2 ^ n)(f:Nat->Bool):xl (qZ m) f=xl (List.range n) λp=>m.testBit p&&f p:=by
 rw[<-Ft.xl_filter];refine Ft.xl_perm ((vX (O1 m) (wx.filter _)).mpr λp=>?_) f;rw[bits_mem,we,wZ];constructor
 ·intro e;refine⟨Decidable.byContradiction λz=>?_,e⟩;rw[vS (wG h (wo (by decide) (by omega)))]at e;cases e
 ·exact λe=>e.2
theorem Zj(f:Nat->Bool):∀L:List Nat,(L.map λp=>(f p).toNat).sum % 2=(xl L f).toNat
 | []=>rfl
 |p::L=>by
  have:=Zj f L;rw[List.map_cons,List.sum_cons,Ft.xl_cons,Nat.add_mod,this];cases f p<;>cases xl L f<;>rfl
theorem qCV{s:Nat}{F X:List Nat}{S cm:Nat->Bool}(c:Cde s F X){l:NP}(o:OkP (2 ^ s) S l):sgn (2 ^ s) F X cm l=(zH (2 ^ s) (kx F (fxB F X) λ_=>false) cm l).toNat:=by
 unfold sgn zH;have e1:((qZ l.1).filter λp=>!frB F p).map (fxN F X)=((qZ l.1).filter λp=>!frB F p).map λp=>(fxB F X p).toNat:=vN λp _=>qBF c p;rw[e1,Nat.add_mod,Zj,Zj,Ft.xl_filter,k7 o.p,k7 o.s];rw[Ft.xl_congr (L:=List.range (2 ^ s)) (f:=λp=>l.1.testBit p&&(!frB F p&&fxB F X p)) (g:=λp=>l.1.testBit p&&kx F (fxB F X) (λ_=>false) p) λp _=>by
  unfold kx frB;by_cases h:p∈F
  ·rw[if_pos h,uI h];rfl
  ·rw[if_neg h,uH h];rfl]
 generalize xl (List.range (2 ^ s)) (λp=>l.1.testBit p&&kx F (fxB F X) (λ_=>false) p)=a;generalize xl (List.range (2 ^ s)) (λp=>l.2.testBit p&&cm p)=b;cases a<;>cases b<;>rfl
theorem OkP.both{n:Nat}{S:Nat->Bool}{a b:NP}(x:OkP n S a)(y:OkP n S b):OkP n S (both a b):=⟨Nat.xor_lt_two_pow x.p y.p,Nat.xor_lt_two_pow x.s y.s,λt h=>by
 have h:(a.2 ^^^ b.2).testBit t=true:=h;rw[vE]at h;cases h1:a.2.testBit t
 ·exact y.k t (by rw[h1]at h;simpa using h)
 ·exact x.k t h1⟩
theorem Q6{n:Nat}{L:List Nat}(nd:L.Nodup)(h:∀p∈L,p<n):qK L<2 ^ n:=by
 refine Nat.lt_pow_two_of_testBit _ λi hi=>?_;rw[Ft.marks_bit nd];exact uH λz=>by have:=h i z;omega
theorem Qf(n t:Nat):(P9 n t).Nodup:=wx.filter _
theorem OkP.sm{n:Nat}{S:Nat->Bool}{t:Nat}(ht:t<n)(hS:S t=false):OkP n S (sm n t):=
 ⟨Q6 (Qf n t) λp hp=>D3 hp,Nat.pow_lt_pow_right (by decide) ht,λu h=>by
  have h:(2 ^ t).testBit u=true:=h;rw[vO]at h;rw[<-uK h];exact hS⟩
theorem mem_kept{n t:Nat}{S:Nat->Bool}:t∈T5 n S↔t<n/\S t=false:=by
 unfold T5;rw[we,wZ];simp
theorem qDT{n:Nat}{S:Nat->Bool}:∀l∈sms n S,OkP n S l:=λl hl=>by
 obtain⟨t,ht,rfl⟩:=wW.mp hl;obtain⟨a,b⟩:=mem_kept.mp ht;exact OkP.sm a b
theorem qB5(n:Nat)(S:Nat->Bool):(sms n S).length<=n:=by
 unfold sms T5;rw[wK];refine wS (wy _ _) ?_;rw[vC];exact wM _
section
variable{k:Nat}
noncomputable abbrev qCh(s:Nat)(F X:List Nat)(cm:Nat->Bool)(rs:List NP):Option NP:=rs.find? λl=>decide (sgn (2 ^ s) F X cm l=1)
theorem qGF(hk:4<=k){M:Mem}{s:Nat}{t1 t2:T}{F X:List Nat}{S cm:Nat->Bool}(c:Cde s F X)(h1:Il M t1 F)(h2:Il M t2 X){a2:Option T}:∀(rs:List NP) (o:Option T),(∀l∈rs,OkP (2 ^ s) S l) ->
  ∃o',(qCh s F X cm rs=none->zJ [] (.name 3) (pxs (glT gs) (Pk (glT gs) Fs Cs k) [] QV) (rs.map pT) [some (cdt s t1 t2),some (cmT (2 ^ s) S cm),a2,o] M=.ok (.nx [some (cdt s t1 t2),some (cmT (2 ^ s) S cm),a2,o'],M))/\
   ∀l,qCh s F X cm rs=some l->zJ [] (.name 3) (pxs (glT gs) (Pk (glT gs) Fs Cs k) [] QV) (rs.map pT) [some (cdt s t1 t2),some (cmT (2 ^ s) S cm),a2,o] M=.ok (.rt (pT l,true),M)
 | [],o,_=>⟨o,λ_=>rfl,λl h=>by cases h⟩
 |l::rs,o,h=>by
  obtain⟨o',e,e'⟩:=qGF hk c h1 h2 (a2:=a2) (cm:=cm) rs (some (pT l)) λl' hl=>h l' (by simp[hl]);have e25:=f25 (k:=k) hk (cm:=cm) c h1 h2 (h l (by simp));have lp:T.lf (pT l)=true:=rfl;have un:∀q,PR.bind (pxs (glT gs) (Pk (glT gs) Fs Cs k) [] QV [some (cdt s t1 t2),some (cmT (2 ^ s) S cm),a2,some (pT l)] M) (λp=>match p.1 with | .nx σ2=>if qe [] p.2=true then zJ [] (.name 3) (pxs (glT gs) (Pk (glT gs) Fs Cs k) [] QV) (rs.map pT) σ2 p.2 else .stuck | .ct σ2=>if qe [] p.2=true then zJ [] (.name 3) (pxs (glT gs) (Pk (glT gs) Fs Cs k) [] QV) (rs.map pT) σ2 p.2 else .stuck | .bk σ2=>.ok (.nx σ2,p.2) | .rt t=>.ok (.rt t,p.2))=q->zJ [] (.name 3) (pxs (glT gs) (Pk (glT gs) Fs Cs k) [] QV) ((l::rs).map pT) [some (cdt s t1 t2),some (cmT (2 ^ s) S cm),a2,o] M=q:=λq hq=>hq;refine⟨o',?_⟩;unfold qCh at *;rw[List.find?_cons];by_cases hs:sgn (2 ^ s) F X cm l=1
  ·rw[uI hs];rw[hs]at e25;have body:pxs (glT gs) (Pk (glT gs) Fs Cs k) [] QV [some (cdt s t1 t2),some (cmT (2 ^ s) S cm),a2,some (pT l)] M=.ok (.rt (pT l,true),M):=by
    rw[QV];clear un e e' h1 h2;generalize cmT (2 ^ s) S cm=Z at *;generalize pT l=Z2 at *;generalize cdt s t1 t2=CC at *;simp[e25,lp]
   refine⟨λz=>(by cases z),λl' z=>un _ ?_⟩;cases z;rw[body];rfl
  ·rw[uH hs];have ne:zB M .eq (N (sgn (2 ^ s) F X cm l)) (N 1)=some false:=by
    rw[qCX,uH hs]
   have body:pxs (glT gs) (Pk (glT gs) Fs Cs k) [] QV [some (cdt s t1 t2),some (cmT (2 ^ s) S cm),a2,some (pT l)] M=.ok (.nx [some (cdt s t1 t2),some (cmT (2 ^ s) S cm),a2,some (pT l)],M):=by
    rw[QV];clear un e e' h1 h2;generalize sgn (2 ^ s) F X cm l=Y at *;generalize cmT (2 ^ s) S cm=Z at *;generalize pT l=Z2 at *;generalize cdt s t1 t2=CC at *;simp[e25,ne,-qCX]
   exact⟨λz=>un _ (by rw[body];exact e z),λl' z=>un _ (by rw[body];exact e' l' z)⟩
theorem f26(hk:5<=k){M:Mem}{s:Nat}{t1 t2:T}{F X:List Nat}{S cm:Nat->Bool}(c:Cde s F X)(h1:Il M t1 F)(h2:Il M t2 X){rs:List NP}(h:∀l∈rs,OkP (2 ^ s) S l):
  ∃r,Pk (glT gs) Fs Cs k 26 [cdt s t1 t2,cmT (2 ^ s) S cm,.lst (rs.map pT)] M=.ok ((r,true),M)/\((qCh s F X cm rs=none/\r=.v .non)\/∃l,qCh s F X cm rs=some l/\r=pT l):=by
 obtain⟨o',e,e'⟩:=qGF (k:=k-1) (by omega) c h1 h2 (a2:=some (.lst (rs.map pT))) (cm:=cm) rs none h;have sr:ZE M (.lst (rs.map pT))=some (rs.map pT,[]):=rfl;rw[qN t26 ⟨rfl,by decide⟩ (by omega),b26,show Cs.getD 26 []=[] from rfl];cases hf:qCh s F X cm rs with
 |none=>
  have e:=e hf;refine⟨.v .non,?_,.inl ⟨rfl,rfl⟩⟩;clear h1 h2 e';generalize rs.map pT=Z3 at *;generalize cmT (2 ^ s) S cm=Z at *;generalize cdt s t1 t2=CC at *;simp[sr,e,qB]
 |some l=>
  have e:=e' l hf;refine⟨pT l,?_,.inr ⟨l,rfl,rfl⟩⟩;clear h1 h2 e';generalize rs.map pT=Z3 at *;generalize pT l=Z2 at *;generalize cmT (2 ^ s) S cm=Z at *;generalize cdt s t1 t2=CC at *;simp[sr,e,qB]
theorem f15(hk:12<=k){M:Mem}{s:Nat}{t1 t2:T}{F X:List Nat}{S cm:Nat->Bool}(c:Cde s F X)(h1:Il M t1 F)(h2:Il M t2 X):
  ∃r,Pk (glT gs) Fs Cs k 15 [cdt s t1 t2,cmT (2 ^ s) S cm] M=.ok ((r,true),M)/\((r=.v .non/\CT s F X S cm=0)\/∃d,d<=32/\r=N d/\CT s F X S cm=2 ^ d):=by
 have n5:=c.n5;have l:=c.len;have sl:=qB5 (2 ^ s) S;have e21:=f21 (k:=k-1) (by omega) M (t1:=t1) (t2:=t2) c.s5 S cm;have e23:=f23 (k:=k-1) (by omega) (t2:=t2) c h1 (ps:=sms (2 ^ s) S) (by omega);obtain⟨ln,ct⟩:=Ft.cnt_solv (fx:=fxB F X) (c:=cm) c.nd c.lt (sms (2 ^ s) S);have ok:=(Ft.solv_keep (free:=qK F) (Q:=OkP (2 ^ s) S) (λa b x y=>x.both y) (sms (2 ^ s) S) ([],[]) (λq h=>(by cases h)) (λq h=>(by cases h)) qDT).2;rw[show (sms (2 ^ s) S).foldl (zF (qK F)) ([],[])=Qq (qK F) (sms (2 ^ s) S) from rfl]at ok;rw[show zh F (λx=>(sms (2 ^ s) S).all λl=>!zH (2 ^ s) (kx F (fxB F X) x) cm l)=CT s F X S cm from rfl]at ct;obtain⟨st,hst⟩:∃st,st=Qq (qK F) (sms (2 ^ s) S):=⟨_,rfl⟩
 rw[<-hst]at e23 ln ct ok;obtain⟨r,e26,hr⟩:=f26 (k:=k-1) (by omega) c h1 h2 (cm:=cm) (rs:=st.2) ok;have lt:=qBy (M:=M) st.1;have lF:=h1.isl.len;have j1:zP M (cdt s t1 t2) (N 1)=some (t1,false):=by rw[zK];simp[h1.lf]
 have i1:zP M (.tup [Q0 st.1,.lst (st.2.map pT)]) (N 1)=some (.lst (st.2.map pT),T.lf (.lst (st.2.map pT))):=rfl;have i0:zP M (.tup [Q0 st.1,.lst (st.2.map pT)]) (N 0)=some (Q0 st.1,T.lf (Q0 st.1)):=rfl;have sgv:∀l∈st.2,(sgn (2 ^ s) F X cm l=1↔zH (2 ^ s) (kx F (fxB F X) λ_=>false) cm l=true):=λl hl=>by
  rw[qCV c (ok l hl)];cases zH (2 ^ s) (kx F (fxB F X) λ_=>false) cm l<;>simp
 rw[qN t15 ⟨rfl,by decide⟩ (by omega),b15,show Cs.getD 15 []=[] from rfl];rcases hr with⟨hs,rfl⟩|⟨l0,hs,rfl⟩
 ·have no:(st.2.any λl=>zH (2 ^ s) (kx F (fxB F X) λ_=>false) cm l)=false:=by
   rw[<-Bool.not_eq_true,wu];rintro⟨l,hl,hv⟩;have:=List.find?_eq_none.mp hs l hl;exact this (uI ((sgv l hl).mpr hv))
  rw[no,if_neg (by decide)]at ct;refine⟨N (F.length-st.1.length),?_,.inr ⟨_,by omega,rfl,ct⟩⟩;have sb:qg M .sub (N F.length) (N st.1.length)=some (N (F.length-st.1.length),true):=QT ln;have cn:zB M .isnot (.v .non) (.v .non)=some false:=rfl;clear h1 h2;generalize Q0 st.1=Z1 at *;generalize T.lst (st.2.map pT)=Z2 at *;generalize T.lst ((sms (2 ^ s) S).map pT)=Z3 at *;generalize cmT (2 ^ s) S cm=Z at *;generalize cdt s t1 t2=CC at *;simp[e21,e23,i1,i0,e26,cn,j1,lF,lt,sb,qB]
 ·have yes:(st.2.any λl=>zH (2 ^ s) (kx F (fxB F X) λ_=>false) cm l)=true:=by
   rw[wu];exact⟨l0,List.mem_of_find?_eq_some hs,(sgv l0 (List.mem_of_find?_eq_some hs)).mp (by have:=List.find?_some hs;exact uK this)⟩
  rw[yes,if_pos rfl]at ct;refine⟨.v .non,?_,.inl ⟨rfl,ct⟩⟩;have cn:zB M .isnot (pT l0) (.v .non)=some true:=rfl;clear h1 h2;generalize Q0 st.1=Z1 at *;generalize T.lst (st.2.map pT)=Z2 at *;generalize T.lst ((sms (2 ^ s) S).map pT)=Z3 at *;generalize cmT (2 ^ s) S cm=Z at *;generalize pT l0=Z4 at *;generalize cdt s t1 t2=CC at *;simp[e21,e23,i1,i0,e26,cn,qB]
theorem hmf(hk:14<=k){M:Mem}{s:Nat}{t1 t2:T}{F X:List Nat}{S cm:Nat->Bool}(c:Cde s F X)(h1:Il M t1 F)(h2:Il M t2 X):
  Pk (glT gs) Fs Cs k 14 [cdt s t1 t2,cmT (2 ^ s) S cm] M=.ok ((N (CT s F X S cm),true),M):=by
 obtain⟨r,e15,hr⟩:=f15 (k:=k-1) (by omega) (M:=M) (S:=S) (cm:=cm) c h1 h2;have q1:=N5 (k:=k-1) (by omega) c h1 h2;have q2:=O6 (k:=k-1) (by omega) c.s5 S cm M;have j0:zP M (cdt s t1 t2) (N 0)=some (N s,true):=by rw[zK];simp
 rw[qN t14 ⟨rfl,by decide⟩ (by omega),b14,show Cs.getD 14 []=[] from rfl];rcases hr with⟨rfl,hc⟩|⟨d,hd,rfl,hc⟩
 ·rw[hc];clear h1 h2;generalize cmT (2 ^ s) S cm=Z at *;generalize cdt s t1 t2=CC at *;simp[q1,j0,q2,e15,L4,qB]
 ·rw[hc];have e16:=f16 (k:=k-1) (by omega) M d (by omega);clear h1 h2;generalize cmT (2 ^ s) S cm=Z at *;generalize cdt s t1 t2=CC at *;simp[q1,j0,q2,e15,qEk,e16,qB]
theorem j4(hk:12<=k){s:Nat}{F X:List Nat}(c:Cde s F X)(S cm:Nat->Bool):CT s F X S cm=0\/∃d,CT s F X S cm=2 ^ d:=by
 obtain⟨r,_,h⟩:=f15 (k:=k) hk (M:=[]) (S:=S) (cm:=cm) c (Il.nl [] F) (Il.nl [] X);rcases h with⟨_,h⟩|⟨d,_,_,h⟩
 ·exact .inl h
 ·exact .inr ⟨d,h⟩
end
end _M
namespace _M
open PySem PySem.Spec _P
open _L (V)
open Ft (xl zH kx zh lv lb zC zL jk)
noncomputable def zer(F:List Nat):List Nat:=F.map λ_=>0
noncomputable def Zw(s:Nat)(F X:List Nat):List Nat:=Nt.word (crd s F X (zer F))
noncomputable def msk(F:List Nat)(t:Nat):List Nat:=(List.range F.length).filter λk=>decide (F.getD k 0&&& t=t)
noncomputable def eqn(s:Nat)(F X:List Nat)(cm:Nat->Bool)(t:Nat):NP:=(qK (msk F t),((cm t).toNat+(Zw s F X).getD t 0) % 2)
noncomputable def eqs(s:Nat)(F X:List Nat)(S cm:Nat->Bool)(i:Nat):List NP:=((List.range i).filter λt=>!S t).map (eqn s F X cm)
theorem qDC(s:Nat)(F X:List Nat):(Zw s F X).length=2 ^ s:=by unfold Zw Nt.word;simp[QX]
theorem qDg{L:List Nat}(nd:L.Nodup){t:Nat}(ht:t∈L)(f:Nat->Bool):xl L (λu=>decide (t=u)&&f u)=f t:=by
 have:=Ft.xl_flip nd ht (f:=λ_=>false) (g:=λu=>decide (t=u)) (by simp) λp _ h=>uH (Ne.symm h);cases hf:f t
 ·refine Ft.xl_none λu _=>?_;by_cases e:t=u
  ·subst e;rw[hf];simp
  ·rw[uH e];rfl
 ·rw[Ft.xl_congr (g:=λu=>decide (t=u)) λu _=>?_,this,Ft.xl_none λ_ _=>rfl]
  ·rfl
  ·by_cases e:t=u
   ·subst e;rw[hf];simp
   ·rw[uH e];rfl
theorem qA9(h f:Nat->_):∀L:List Nat,xl (L.map h) f=xl L λp=>f (h p)
 | []=>rfl
 |p::L=>by rw[List.map_cons,Ft.xl_cons,Ft.xl_cons,qA9 h f L]
theorem O7(F:List Nat):(List.range F.length).map (λj=>F.getD j 0)=F:=by
 refine List.ext_getElem (by simp) λi h1 h2=>?_;rw[vq,List.getElem_range,wY,wD h2];rfl
theorem qHM{s:Nat}{F X:List Nat}(c:Cde s F X){p:Nat}(hp:p<2 ^ s):(crd s F X (zer F)).getD p 0=(!frB F p&&fxB F X p).toNat:=by
 have e:(crd s F X (zer F)).getD p 0=Cd.cf F X (zer F) p:=by
  unfold crd;rw[wY,wg,ve hp];rfl
 rw[e];unfold Cd.cf frB;by_cases h:p∈F
 ·rw[if_pos h,uI h];unfold zer;rw[wY,wg];cases F[F.idxOf p]?<;>rfl
 ·rw[if_neg h,uH h];have:=qBF c p;unfold fxN at this;rw[this];rfl
theorem qEQ{s:Nat}{F X:List Nat}(c:Cde s F X){t:Nat}(ht:t<2 ^ s):(Zw s F X).getD t 0=(xl (List.range (2 ^ s)) λp=>decide (p&&& t=t)&&(!frB F p&&fxB F X p)).toNat:=by
 unfold Zw Nt.word;rw[QX,wY,wg,ve ht];show (((List.range (2 ^ s)).filter λp=>decide (p&&& t=t)).map λp=>(crd s F X (zer F)).getD p 0).sum % 2=_;rw[vN (g:=λp=>(!frB F p&&fxB F X p).toNat) λp hp=>qHM c (wZ.mp (we.mp hp).1),Zj,Ft.xl_filter]
theorem U6{s:Nat}{F X:List Nat}{cm:Nat->Bool}(c:Cde s F X){t:Nat}(ht:t<2 ^ s)(x:Nat->Bool):zH (2 ^ s) (kx F (fxB F X) x) cm (sm (2 ^ s) t)=lv F x (eqn s F X cm t):=by
 unfold zH lv eqn;dsimp only;rw[qEQ c ht];have e1:xl (List.range (2 ^ s)) (λp=>(sm (2 ^ s) t).1.testBit p&&kx F (fxB F X) x p)=(xl F (λp=>decide (p&&& t=t)&&x p) ^^ xl (List.range (2 ^ s)) λp=>decide (p&&& t=t)&&(!frB F p&&fxB F X p)):=by
  have pf:F.Perm ((List.range (2 ^ s)).filter (frB F)):=(vX c.nd (wx.filter _)).mpr λp=>by
   rw[we,wZ];unfold frB;exact⟨λh=>⟨c.lt p h,uI h⟩,λh=>uK h.2⟩
  rw[Ft.xl_perm pf,Ft.xl_filter,<-Ft.xl_xor];refine Ft.xl_congr λp hp=>?_;show ((qK (P9 (2 ^ s) t)).testBit p&&kx F (fxB F X) x p)=_;rw[Ft.marks_bit (Qf _ _),show decide (p∈P9 (2 ^ s) t)=decide (p&&& t=t) by
   unfold P9;rw[decide_eq_decide,we];exact⟨λh=>uK h.2,λh=>⟨hp,uI h⟩⟩]
  unfold kx frB;by_cases h:p∈F
  ·rw[if_pos h,uI h];cases decide (p&&& t=t)<;>cases x p<;>rfl
  ·rw[if_neg h,uH h];cases decide (p&&& t=t)<;>cases fxB F X p<;>rfl
 have e2:xl (List.range (2 ^ s)) (λu=>(sm (2 ^ s) t).2.testBit u&&cm u)=cm t:=by
  rw[<-qDg wx (wZ.mpr ht) cm];refine Ft.xl_congr λu _=>?_;show ((2 ^ t).testBit u&&cm u)=_;rw[vO]
 have e3:xl (List.range F.length) (λj=>(qK (msk F t)).testBit j&&x (F.getD j 0))=xl F λp=>decide (p&&& t=t)&&x p:=by
  conv=>rhs;rw[<-O7 F]
  rw[qA9];refine Ft.xl_congr λj hj=>?_;rw[Ft.marks_bit (show (msk F t).Nodup from wx.filter _)];congr 1;unfold msk;rw[decide_eq_decide,we];exact⟨λh=>uK h.2,λh=>⟨hj,uI h⟩⟩
 rw[e1,e2,e3];generalize xl F (λp=>decide (p&&& t=t)&&x p)=w1;generalize xl (List.range (2 ^ s)) (λp=>decide (p&&& t=t)&&(!frB F p&&fxB F X p))=w2;cases w1<;>cases w2<;>cases cm t<;>rfl
theorem qDf{s:Nat}{F X:List Nat}{S cm:Nat->Bool}{i:Nat}:∀e∈eqs s F X S cm i,e.2<2:=λe he=>by
 obtain⟨t,_,rfl⟩:=wW.mp he;exact uE _ (by decide)
theorem qCv{s:Nat}{F X:List Nat}{S cm:Nat->Bool}(c:Cde s F X):CT s F X S cm=if ((List.range F.length).foldl zC (eqs s F X S cm (2 ^ s),F.length)).1.any (λe=>decide (e.2=1))=true then 0 else 2 ^ ((List.range F.length).foldl zC (eqs s F X S cm (2 ^ s),F.length)).2:=by
 have h:=Ft.law_cnt c.nd F 0 (eqs s F X S cm (2 ^ s)) F.length rfl (vU _) (λe he=>⟨qDf e he,λi hi=>by omega⟩) (wM _);rw[Nat.sub_self,Nat.pow_zero,Nat.mul_one,<-vH]at h;rw[<-h];refine Ft.cnt_congr (λx=>?_) F;unfold sms eqs;rw[wl,List.all_eq_true,List.all_eq_true];constructor
 ·intro z e he;obtain⟨t,ht,rfl⟩:=wW.mp he;have:=z (sm (2 ^ s) t) (wW.mpr ⟨t,ht,rfl⟩)
  rwa [U6 c (wZ.mp (we.mp ht).1)]at this
 ·intro z e he;obtain⟨t,ht,rfl⟩:=wW.mp he;have:=z (eqn s F X cm t) (wW.mpr ⟨t,ht,rfl⟩)
  rwa [U6 c (wZ.mp (we.mp ht).1)]
end _M
namespace _M
open PySem PySem.Spec _P
open _L (V)
open Ft (xl zH kx zh lv lb zC zL jk)
theorem qEz(ps:List NP):lT (ps.map pT)=(.lst (ps.map pT),true):=by unfold lT;rw[i8]
theorem qAc{M:Mem}(ps:List NP):zB M .ne (.lst (ps.map pT)) (.lst [])=some (!ps.isEmpty):=by
 cases ps<;>rfl
theorem L1(s:Nat)(F X:List Nat)(S cm:Nat->Bool)(i:Nat):eqs s F X S cm (i+1)=eqs s F X S cm i++if S i=true then [] else [eqn s F X cm i]:=by
 unfold eqs;rw[uB,List.filter_append,wk];congr 1;cases h:S i<;>simp[h]
theorem c6(s:Nat)(F X:List Nat)(S cm:Nat->Bool)(i:Nat):(eqs s F X S cm i).length<=i:=by
 unfold eqs;rw[wK];refine wS (wy _ _) ?_;rw[vC];exact wM _
section
variable{k:Nat}
theorem qFH(hk:3<=k){M:Mem}(hW:WfM M){s:Nat}{t1 t2:T}{F X:List Nat}(c:Cde s F X)(h1:Il M t1 F)(h2:Il M t2 X):Pk (glT gs) Fs Cs k 33 [cdt s t1 t2] M=.ok ((NL (Zw s F X),true),M):=by
 have n5:=c.n5;have l:=c.len;obtain⟨d,s1,_,hd⟩:=h1.isl.src;have cc:=F3 (d:=d) (c:=pec (glT gs) (Pk (glT gs) Fs Cs (k-1)) .nil) (e:=pe (glT gs) (Pk (glT gs) Fs Cs (k-1)) (nE 0)) (σ:=[]) (M:=M) (o:=none) (its:=F) (λ_=>true) (λ_=>0) hd (by simp[lim];omega) (λx _=>by simp) (λx hx _=>by simp);rw[qm,show (F.map λ_=>0)=zer F from rfl]at cc;have e31:=qEO (k:=k-1) (by omega) hW c h1 h2 (Il.nl M (zer F)) (by unfold zer;simp);have e32:=qDq (k:=k-1) (by omega) (x:=crd s F X (zer F)) (by rw[QX];omega) M;have j1:zP M (cdt s t1 t2) (N 1)=some (t1,false):=by rw[zK];simp[h1.lf]
 rw[qN t33 ⟨rfl,by decide⟩ (by omega),b33,show Cs.getD 33 []=[] from rfl];unfold Zw;clear h1 h2;generalize NL (Nt.word (crd s F X (zer F)))=Z1 at *;generalize NL (crd s F X (zer F))=Z2 at *;generalize NL (zer F)=Z3 at *;generalize cdt s t1 t2=CC at *;simp[j1,s1,cc,e31,e32,qB,-zO]
theorem eqL(hk:1<=k){M:Mem}{s:Nat}{t1 t2:T}{F X:List Nat}{S cm:Nat->Bool}(c:Cde s F X)(h1:Il M t1 F):∀(m i:Nat) (o4 o5:Option T),i+m=2 ^ s ->
  ∃o4' o5',zJ [] (.name 4) (pxs (glT gs) (Pk (glT gs) Fs Cs k) [3] j5) ((List.range' i m).map N) [some (cdt s t1 t2),some (cmT (2 ^ s) S cm),some (NL (Zw s F X)),some (.cell M.length),o4,o5] (M++[(eqs s F X S cm i).map pT])=.ok (.nx [some (cdt s t1 t2),some (cmT (2 ^ s) S cm),some (NL (Zw s F X)),some (.cell M.length),o4',o5'],M++[(eqs s F X S cm (2 ^ s)).map pT])
 | 0,i,o4,o5,h=>⟨o4,o5,by rw[show i=2 ^ s by omega];rfl⟩
 |m+1,i,o4,o5,h=>by
  have n5:=c.n5;have l:=c.len;have hi:i<2 ^ s:=by omega
  obtain⟨M1,hM1⟩:∃M1,M1=M++[(eqs s F X S cm i).map pT]:=⟨_,rfl⟩
  have g1:IsL M1 t1 F:=by rw[hM1];exact h1.app.isl
  have lf1:t1.lf=false:=h1.lf;have at1:M1[M.length]?=some ((eqs s F X S cm i).map pT):=by rw[hM1];simp
  have ci:=K5 (M:=M1) (S:=S) (cm:=cm) hi;have j1:zP M1 (cdt s t1 t2) (N 1)=some (t1,false):=by rw[zK];simp[lf1]
  have body:∃o5',pxs (glT gs) (Pk (glT gs) Fs Cs k) [3] j5 [some (cdt s t1 t2),some (cmT (2 ^ s) S cm),some (NL (Zw s F X)),some (.cell M.length),some (N i),o5] M1=.ok (.nx [some (cdt s t1 t2),some (cmT (2 ^ s) S cm),some (NL (Zw s F X)),some (.cell M.length),some (N i),o5'],M++[(eqs s F X S cm (i+1)).map pT]):=by
   cases hS:S i with
   |true=>
    refine⟨o5,?_⟩;rw[L1,hS,if_pos rfl,wd,<-hM1];have ce:cmE S cm i=.v .non:=by unfold cmE;rw[hS];rfl
    rw[ce]at ci;have cn:zB M1 .isnot (.v .non) (.v .non)=some false:=rfl;rw[j5];clear h1;generalize cmT (2 ^ s) S cm=Z at *;generalize NL (Zw s F X)=Z2 at *;generalize cdt s t1 t2=CC at *;simp[ci,cn]
   |false=>
    rw[A0 hS]at ci;have ln:=g1.len;have cc:=zq (c:=pec (glT gs) (Pk (glT gs) Fs Cs k) (.cons (.cmp .eq (.bin .band (.idx (.idx (.var 1) (nE 1)) (.var 0)) (.var 2)) (.var 2)) .nil)) (e:=pe (glT gs) (Pk (glT gs) Fs Cs k) (.bin .shl (nE 1) (.var 0))) (σ:=[some (cdt s t1 t2),some (N i)]) (M:=M1) (o:=none) (its:=List.range F.length) (λj=>decide (F.getD j 0&&& i=i)) (λj=>2 ^ j) (by simp[lim];omega) (λj hj=>by
     have g2:=g1.idx (getD_some (wZ.mp hj));have lt:T.lf t1=false:=lf1;generalize F.getD j 0=va at *;clear h1 g1;generalize cdt s t1 t2=CC at *;simp[j1,g2,Qv]) (λj hj _=>by
     have sh:qg M1 .shl (N 1) (N j)=some (N (2 ^ j),true):=by rw[Jk (by have:=wZ.mp hj;omega),vw]
     simp[sh])
    have cc:qP [] (.name 0) (pec (glT gs) (Pk (glT gs) Fs Cs k) (.cons (.cmp .eq (.bin .band (.idx (.idx (.var 1) (nE 1)) (.var 0)) (.var 2)) (.var 2)) .nil)) (pe (glT gs) (Pk (glT gs) Fs Cs k) (.bin .shl (nE 1) (.var 0))) ((List.range F.length).map N) [] true [none,some (cdt s t1 t2),some (N i)] M1=.ok ((NL ((msk F i).map λj=>2 ^ j),true),M1):=cc;have sm:jS M1 .sum [NL ((msk F i).map λj=>2 ^ j)]=some (N (qK (msk F i)),true):=(IsL.nl M1 ((msk F i).map λj=>2 ^ j)).sum;have rg:=zb (n:=F.length) (by omega);have zi:=(IsL.nl M1 (Zw s F X)).idx (getD_some (show i<(Zw s F X).length by rw[qDC];exact hi));have ad:qg M1 .add (N (cm i).toNat) (N ((Zw s F X).getD i 0))=some (N ((cm i).toNat+(Zw s F X).getD i 0),true):=Qs _ _;have md:qg M1 .mod (N ((cm i).toNat+(Zw s F X).getD i 0)) (N 2)=some (N (((cm i).toNat+(Zw s F X).getD i 0) % 2),true):=jm (by decide);have ap:=qED (x:=T.tup [N (qK (msk F i)),N (((cm i).toNat+(Zw s F X).getD i 0) % 2)]) at1 (by rw[wK];have:=c6 s F X S cm i;simp[lim];omega);have e2:M1.set M.length ((eqs s F X S cm i).map pT++[T.tup [N (qK (msk F i)),N (((cm i).toNat+(Zw s F X).getD i 0) % 2)]])=M++[(eqs s F X S cm (i+1)).map pT]:=by
     rw[hM1,JD,L1,hS,if_neg (by decide),wk];rfl
    rw[e2]at ap;have cn:zB M1 .isnot (N (cm i).toNat) (.v .non)=some true:=rfl;refine⟨some (N (qK (msk F i))),?_⟩;rw[j5];clear h1 e2 g1;generalize M++[(eqs s F X S cm (i+1)).map pT]=M2 at *;generalize ((cm i).toNat+(Zw s F X).getD i 0) % 2=V2 at *;generalize (cm i).toNat+(Zw s F X).getD i 0=V1 at *;generalize (cm i).toNat=V3 at *;generalize (Zw s F X).getD i 0=V4 at *;generalize qK (msk F i)=V5 at *;generalize NL ((msk F i).map λj=>2 ^ j)=Z5 at *;generalize cmT (2 ^ s) S cm=Z at *;generalize NL (Zw s F X)=Z2 at *;generalize cdt s t1 t2=CC at *;simp[ci,cn,j1,ln,rg,cc,sm,zi,ad,md,ap,lim,-qw,-qED]
  obtain⟨o5',body⟩:=body;obtain⟨o4'',o5'',e⟩:=eqL hk c h1 (t2:=t2) m (i+1) (some (N i)) o5' (by omega);refine⟨o4'',o5'',?_⟩;rw[<-hM1,vG,List.map_cons,jO,show ∀a b c d e f z:Option T,[a,b,c,d,e,f].set 4 z=[a,b,c,d,z,f] from λ_ _ _ _ _ _ _=>rfl,body,tD];exact e
theorem f35(hk:4<=k){M:Mem}(hW:WfM M){s:Nat}{t1 t2:T}{F X:List Nat}{S cm:Nat->Bool}(c:Cde s F X)(h1:Il M t1 F)(h2:Il M t2 X):Pk (glT gs) Fs Cs k 35 [cdt s t1 t2,cmT (2 ^ s) S cm] M=.ok ((.lst ((eqs s F X S cm (2 ^ s)).map pT),true),M):=by
 have n5:=c.n5;have e33:=qFH (k:=k-1) (by omega) hW c h1 h2;obtain⟨o4,o5,e⟩:=eqL (k:=k-1) (by omega) (S:=S) (cm:=cm) (t2:=t2) c h1 (2 ^ s) 0 none none (by omega);rw[show (eqs s F X S cm 0).map pT=[] from rfl,<-vH]at e;have ln:=R9 (M:=M++[[]]) (2 ^ s) S cm;have rg:=zb (n:=2 ^ s) (by omega);have th:thaw M.length (.lst [])=(.cell M.length,[[]]):=rfl;have lv:=jy (M:=M) (A:=M) (C:=[(eqs s F X S cm (2 ^ s)).map pT]) (c:=M.length) (ts:=(eqs s F X S cm (2 ^ s)).map pT) rfl hW (by simp) (wM _) (i8 _) false;rw[qN t35 ⟨rfl,by decide⟩ (by omega),b35,show Cs.getD 35 []=[3] from rfl];clear h1 h2;generalize (eqs s F X S cm (2 ^ s)).map pT=P1 at *;generalize NL (Zw s F X)=Z2 at *;generalize cmT (2 ^ s) S cm=Z at *;generalize cdt s t1 t2=CC at *;simp[e33,th,ln,rg,e,lim];exact lv
end
end _M
namespace _M
open PySem PySem.Spec _P
open _L (V)
open Ft (xl zH kx zh lv lb zC zL jk)
theorem V9(es:List NP)(many j:Nat):(zC (es,many) j).1.length<=es.length:=by
 unfold zC;dsimp only;have a:(jk j es).length+(zL j es).length=es.length:=by
  unfold jk zL
  induction es with
  |nil=>rfl
  |cons e es ih=>
   rw[List.filter_cons,List.filter_cons];cases e.1.testBit j<;>simp at *<;>omega
 split
 ·dsimp only;omega
 ·rename_i h H hh;rw[hh]at a;rw[wV,wK];simp at a;omega
section
variable{k:Nat}
theorem qHK(M:Mem)(m j:Nat)(hj:j<=1000):qg M .shr (N m) (N j)=some (N (m / 2 ^ j),true)/\qg M .band (N (m / 2 ^ j)) (N 1)=some (N (m / 2 ^ j % 2),true):=by
 constructor
 ·unfold N;rw[qA0 (by omega)];unfold iT;simp
 ·rw[Qv,Nat.and_one_is_mod]
theorem qG0{P:Nat->List T->Mem->PR (TB×Mem)}{M:Mem}{j:Nat}(hj:j<=1000)(v:Nat)(hv:v<2)(es:List NP)(hl:es.length<=100):
  qP [] (.name 0) (pec (glT gs) P (.cons (.cmp .eq (.bin .band (.bin .shr (.idx (.var 0) (nE 0)) (.var 1)) (nE 1)) (nE v)) .nil)) (pe (glT gs) P (.var 0)) (es.map pT) [] true [none,some (N j)] M=.ok ((.lst ((es.filter λe=>decide (e.1 / 2 ^ j % 2=v)).map pT),true),M):=by
 have cc:=ZS (c:=pec (glT gs) P (.cons (.cmp .eq (.bin .band (.bin .shr (.idx (.var 0) (nE 0)) (.var 1)) (nE 1)) (nE v)) .nil)) (e:=pe (glT gs) P (.var 0)) (M:=M) (σ:=[some (N j)]) pT pT (λe=>decide (e.1 / 2 ^ j % 2=v)) (λ_=>true) es [] true none (by simp[lim];omega) (λe _=>by
  have i0:zP M (pT e) (N 0)=some (N e.1,true):=rfl;obtain⟨b1,b2⟩:=qHK M e.1 j hj;generalize e.1 / 2 ^ j % 2=w at *;generalize e.1 / 2 ^ j=w2 at *;generalize pT e=Z at *;simp[i0,b1,b2]) (λe _ _=>by
  have lp:T.lf (pT e)=true:=rfl;generalize pT e=Z at *;simp[lp])
 rw[List.nil_append,show ((es.filter λe=>decide (e.1 / 2 ^ j % 2=v)).all λ_=>true)=true from List.all_eq_true.mpr λ_ _=>rfl]at cc;exact cc
theorem qHy{P:Nat->List T->Mem->PR (TB×Mem)}{M:Mem}{a0 a1:T}{j many:Nat}(hj:j<=1000)(hm:1<=many)(es:List NP)(hl:es.length<=100)(o5:Option T):
  ∃o5',pxs (glT gs) P [] S9 [some a0,some a1,some (.lst (es.map pT)),some (N many),some (N j),o5] M=.ok (.nx [some a0,some a1,some (.lst ((zC (es,many) j).1.map pT)),some (N (zC (es,many) j).2),some (N j),o5'],M):=by
 have c1:=qG0 (P:=P) (M:=M) hj 1 (by decide) es hl;have c0:=qG0 (P:=P) (M:=M) hj 0 (by decide) es hl;have h1:(es.filter λe=>decide (e.1 / 2 ^ j % 2=1))=jk j es:=by
  unfold jk;exact List.filter_congr λe _=>by rw[vL]
 have h0:(es.filter λe=>decide (e.1 / 2 ^ j % 2=0))=zL j es:=by
  unfold zL;refine List.filter_congr λe _=>?_;rw[vL];rcases vY (e.1 / 2 ^ j) with h|h<;>rw[h]<;>rfl
 rw[h1]at c1;rw[h0]at c0;have sr:ZE M (.lst (es.map pT))=some (es.map pT,[]):=rfl;have nn:=qAc (M:=M) (jk j es);have lr:(zL j es).length<=es.length:=wy _ _;have lh:(jk j es).length<=es.length:=wy _ _;cases hh:jk j es with
 |nil=>
  rw[hh]at c1 nn;have st:zC (es,many) j=(zL j es,many):=by unfold zC;dsimp only;rw[hh]
  refine⟨some (.lst (([]:List NP).map pT)),?_⟩;rw[st,S9];dsimp only;generalize es.map pT=Z1 at *;generalize (zL j es).map pT=Z2 at *;generalize ([]:List NP).map pT=Z3 at *;simp[sr,c1,c0,nn,-qw]
 |cons q H=>
  rw[hh]at c1 nn lh;have st:zC (es,many) j=(zL j es++H.map (λe=>lb e q),many-1):=by unfold zC;dsimp only;rw[hh]
  have sb:qg M .sub (N many) (N 1)=some (N (many-1),true):=QT hm;have cu:JF ((q::H).map pT) (some 1) none=H.map pT:=by
   show JF ((q::H).map pT) (some ((1:Nat):Int)) none=_;rw[JT (by simp),List.map_cons,List.drop_succ_cons,List.drop_zero]
  have sr2:ZE M (.lst (H.map pT))=some (H.map pT,[]):=rfl;have q0:zP M (.lst ((q::H).map pT)) (N 0)=some (pT q,true):=by rw[QC];rfl
  have cc:=ZS (c:=pec (glT gs) P .nil) (e:=pe (glT gs) P (.tup (.cons (.bin .bxor (.idx (.var 0) (nE 0)) (.idx (.idx (.var 1) (nE 0)) (nE 0))) (.cons (.bin .mod (.bin .add (.idx (.var 0) (nE 1)) (.idx (.idx (.var 1) (nE 0)) (nE 1))) (nE 2)) .nil)))) (M:=M) (σ:=[some (.lst ((q::H).map pT))]) pT (λe=>pT (lb e q)) (λ_=>true) (λ_=>true) H [] true none (by simp at lh;simp[lim];omega) (λe _=>by simp) (λe _ _=>by
   have i0:zP M (pT e) (N 0)=some (N e.1,true):=rfl;have i1:zP M (pT e) (N 1)=some (N e.2,true):=rfl;have k0:zP M (pT q) (N 0)=some (N q.1,true):=rfl;have k1:zP M (pT q) (N 1)=some (N q.2,true):=rfl;have x1:=L7 M e.1 q.1;have ad:qg M .add (N e.2) (N q.2)=some (N (e.2+q.2),true):=Qs _ _;have md:qg M .mod (N (e.2+q.2)) (N 2)=some (N ((e.2+q.2) % 2),true):=jm (by decide);have lp:T.lf (pT e)=true:=rfl;have lf2:T.lf (.lst ((q::H).map pT))=false:=rfl;have ex:pT (lb e q)=.tup [N (e.1 ^^^ q.1),N ((e.2+q.2) % 2)]:=rfl;rw[ex];generalize T.lst ((q::H).map pT)=Z1 at *;generalize pT e=Z2 at *;generalize pT q=Z3 at *;simp[q0,i0,i1,k0,k1,x1,ad,md,lp,lf2,lim])
  rw[qm,List.nil_append,show (H.all λ_=>true)=true from List.all_eq_true.mpr λ_ _=>rfl]at cc;have cc:qP [] (.name 0) (pec (glT gs) P .nil) (pe (glT gs) P (.tup (.cons (.bin .bxor (.idx (.var 0) (nE 0)) (.idx (.idx (.var 1) (nE 0)) (nE 0))) (.cons (.bin .mod (.bin .add (.idx (.var 0) (nE 1)) (.idx (.idx (.var 1) (nE 0)) (nE 1))) (nE 2)) .nil)))) (H.map pT) [] true [none,some (.lst ((q::H).map pT))] M=.ok ((.lst (H.map λe=>pT (lb e q)),true),M):=cc;have ad:qg M .add (.lst ((zL j es).map pT)) (.lst (H.map λe=>pT (lb e q)))=some (.lst ((zL j es++H.map λe=>lb e q).map pT),true):=by
   rw[J0 (by simp at lh;simp[lim];omega)];rw[show (zL j es).map pT++(H.map λe=>pT (lb e q))=(zL j es++H.map λe=>lb e q).map pT by rw[wk,vI];rfl,qEz]
  have its:T.its M (.lst ((q::H).map pT))=some ((q::H).map pT):=rfl;refine⟨some (.lst ((q::H).map pT)),?_⟩;rw[st,S9];dsimp only;generalize (zL j es++H.map λe=>lb e q).map pT=Z5 at *;generalize (H.map λe=>pT (lb e q))=Z4 at *;generalize es.map pT=Z1 at *;generalize (zL j es).map pT=Z2 at *;generalize (q::H).map pT=Z3 at *;generalize H.map pT=Z6 at *;simp[sr,c1,c0,nn,sb,its,cu,sr2,cc,ad,-qw,-zO]
theorem qGB{P:Nat->List T->Mem->PR (TB×Mem)}{M:Mem}{a0 a1:T}:∀(m j:Nat) (es:List NP) (many:Nat) (o4 o5:Option T),j+m<=1000->es.length<=100->m<=many ->
  ((List.range' j m).foldl zC (es,many)).1.length<=100/\∃o4' o5',zJ [] (.name 4) (pxs (glT gs) P [] S9) ((List.range' j m).map N) [some a0,some a1,some (.lst (es.map pT)),some (N many),o4,o5] M=.ok (.nx [some a0,some a1,some (.lst (((List.range' j m).foldl zC (es,many)).1.map pT)),some (N ((List.range' j m).foldl zC (es,many)).2),o4',o5'],M)
 | 0,j,es,many,o4,o5,_,hl,_=>⟨hl,o4,o5,rfl⟩
 |m+1,j,es,many,o4,o5,hj,hl,hm=>by
  obtain⟨o5',body⟩:=qHy (P:=P) (M:=M) (a0:=a0) (a1:=a1) (j:=j) (many:=many) (by omega) (by omega) es hl o5;have ll:=V9 es many j;have lm:m<=(zC (es,many) j).2:=by
   unfold zC;dsimp only;split<;>dsimp only<;>omega
  obtain⟨l2,o4'',o5'',e⟩:=qGB (P:=P) (M:=M) (a0:=a0) (a1:=a1) m (j+1) (zC (es,many) j).1 (zC (es,many) j).2 (some (N j)) o5' (by omega) (by omega) lm;rw[vG,List.foldl_cons];refine⟨l2,o4'',o5'',?_⟩;rw[List.map_cons,jO,show ∀a b c d e f z:Option T,[a,b,c,d,e,f].set 4 z=[a,b,c,d,z,f] from λ_ _ _ _ _ _ _=>rfl,body,tD];exact e
theorem f36(hk:5<=k){M:Mem}(hW:WfM M){s:Nat}{t1 t2:T}{F X:List Nat}{S cm:Nat->Bool}(c:Cde s F X)(h1:Il M t1 F)(h2:Il M t2 X):∃r,Pk (glT gs) Fs Cs k 36 [cdt s t1 t2,cmT (2 ^ s) S cm] M=.ok ((r,true),M)/\((r=.v .non/\CT s F X S cm=0)\/∃d,d<=32/\r=N d/\CT s F X S cm=2 ^ d):=by
 have n5:=c.n5;have l:=c.len;have e35:=f35 (k:=k-1) (by omega) hW (S:=S) (cm:=cm) c h1 h2;have el:=c6 s F X S cm (2 ^ s);have ct:=qCv (S:=S) (cm:=cm) c;obtain⟨lr,o4,o5,e⟩:=qGB (P:=Pk (glT gs) Fs Cs (k-1)) (M:=M) (a0:=cdt s t1 t2) (a1:=cmT (2 ^ s) S cm) F.length 0 (eqs s F X S cm (2 ^ s)) F.length none none (by omega) (by omega) (wM _);have mm:∀(m j:Nat) (st:List NP×Nat),((List.range' j m).foldl zC st).2<=st.2:=by
  intro m
  induction m with
  |zero=>exact λj st=>wM _
  |succ m ih=>
   intro j st;rw[vG,List.foldl_cons];refine wS (ih _ _) ?_;unfold zC;split<;>dsimp only<;>omega
 have mm:=mm F.length 0 (eqs s F X S cm (2 ^ s),F.length);rw[<-vH]at e lr mm;generalize (List.range F.length).foldl zC (eqs s F X S cm (2 ^ s),F.length)=r at *;dsimp only at mm;have lF:=h1.isl.len;have j1:zP M (cdt s t1 t2) (N 1)=some (t1,false):=by rw[zK];simp[h1.lf]
 have rg:=zb (n:=F.length) (by omega);have cc:=ZS (c:=pec (glT gs) (Pk (glT gs) Fs Cs (k-1)) (.cons (.cmp .eq (.idx (.var 0) (nE 1)) (nE 1)) .nil)) (e:=pe (glT gs) (Pk (glT gs) Fs Cs (k-1)) (.var 0)) (M:=M) (σ:=[]) pT pT (λe=>decide (e.2=1)) (λ_=>true) r.1 [] true none (by simp[lim];omega) (λe _=>by
  have i1:zP M (pT e) (N 1)=some (N e.2,true):=rfl;generalize pT e=Z at *;simp[i1]) (λe _ _=>by
  have lp:T.lf (pT e)=true:=rfl;generalize pT e=Z at *;simp[lp])
 rw[List.nil_append,show ((r.1.filter λe=>decide (e.2=1)).all λ_=>true)=true from List.all_eq_true.mpr λ_ _=>rfl]at cc;have nn:=qAc (M:=M) (r.1.filter λe=>decide (e.2=1));have sr:ZE M (.lst (r.1.map pT))=some (r.1.map pT,[]):=rfl;have ie:(!(r.1.filter λe=>decide (e.2=1)).isEmpty)=r.1.any λe=>decide (e.2=1):=by
  rw[wl,wu,Bool.not_eq_true',List.isEmpty_eq_false_iff];constructor
  ·intro h;obtain⟨e,he⟩:=List.exists_mem_of_ne_nil _ h;exact⟨e,(we.mp he).1,(we.mp he).2⟩
  ·rintro⟨e,h1,h2⟩ z;have:=(we (p:=λe:NP=>decide (e.2=1))).mpr ⟨h1,h2⟩;rw[z]at this;cases this
 rw[ie]at nn;rw[qN t36 ⟨rfl,by decide⟩ (by omega),b36,show Cs.getD 36 []=[] from rfl];cases ha:r.1.any λe=>decide (e.2=1) with
 |true=>
  rw[ha,if_pos rfl]at ct;rw[ha]at nn;refine⟨.v .non,?_,.inl ⟨rfl,ct⟩⟩;clear h1 h2 ie;generalize (r.1.filter λe=>decide (e.2=1)).map pT=Z4 at *;generalize r.1.map pT=Z2 at *;generalize (eqs s F X S cm (2 ^ s)).map pT=Z3 at *;generalize cmT (2 ^ s) S cm=Z at *;generalize cdt s t1 t2=CC at *;simp[e35,j1,lF,rg,e,sr,cc,nn,qB,-qw]
 |false=>
  rw[ha,if_neg (by decide)]at ct;rw[ha]at nn;refine⟨N r.2,?_,.inr ⟨r.2,by omega,rfl,ct⟩⟩;clear h1 h2 ie;generalize (r.1.filter λe=>decide (e.2=1)).map pT=Z4 at *;generalize r.1.map pT=Z2 at *;generalize (eqs s F X S cm (2 ^ s)).map pT=Z3 at *;generalize cmT (2 ^ s) S cm=Z at *;generalize cdt s t1 t2=CC at *;simp[e35,j1,lF,rg,e,sr,cc,nn,qB,-qw]
theorem f37(hk:6<=k){M:Mem}(hW:WfM M){s:Nat}{t1 t2:T}{F X:List Nat}{S cm:Nat->Bool}(c:Cde s F X)(h1:Il M t1 F)(h2:Il M t2 X):Pk (glT gs) Fs Cs k 37 [cdt s t1 t2,cmT (2 ^ s) S cm] M=.ok ((N (CT s F X S cm),true),M):=by
 obtain⟨r,e36,hr⟩:=f36 (k:=k-1) (by omega) hW (S:=S) (cm:=cm) c h1 h2;rw[qN t37 ⟨rfl,by decide⟩ (by omega),b37,show Cs.getD 37 []=[] from rfl];rcases hr with⟨rfl,hc⟩|⟨d,hd,rfl,hc⟩
 ·rw[hc];clear h1 h2;generalize cmT (2 ^ s) S cm=Z at *;generalize cdt s t1 t2=CC at *;simp[e36,L4,qB]
 ·rw[hc];have sh:qg M .shl (N 1) (N d)=some (N (2 ^ d),true):=by rw[Jk (by omega),vw]
  clear h1 h2;generalize cmT (2 ^ s) S cm=Z at *;generalize cdt s t1 t2=CC at *;simp[e36,qEk,sh,qB]
end
end _M
namespace _M
open PySem PySem.Spec _P
open _L (V)
noncomputable def c_0:S:=(.asg (.name 2) (.call 28 (.cons (.var 0) (.cons (nE 5) .nil))))
noncomputable def c_1:S:=(.asg (.name 3) (.bin .shl (nE 1) (.idx (.var 1) (nE 0))))
noncomputable def c_2:S:=(.asg (.name 4) (.call 32 (.cons (.call 31 (.cons (.var 1) (.cons (.comp (.list (.idx (.var 1) (nE 1))) [none,some 0] (.name 0) .nil (.call 28 (.cons (.var 1) (.cons (nE 2) .nil)))) .nil))) .nil)))
noncomputable def c_3:S:=(.asg (.name 5) (.bin .add (nE 1) (.call 28 (.cons (.var 0) (.cons (nE 4) .nil)))))
noncomputable def c_4:S:=(.asg (.name 6) (.comp (.list (.var 4)) [none,some 0,some 5] (.name 0) .nil (.idx (.lst (.cons (.var 0) (.cons (.cst V.non) .nil))) (.blt .int (.cons (.cmp .eq (.call 28 (.cons (.var 1) (.cons (.var 2) .nil))) (nE 0)) .nil)))))
noncomputable def c_5:S:=(.ifs (.cmp .eq (.var 2) (nE 4)) (.cons (.ret (.comp (.rng1 (.var 3)) [none,some 0] (.name 0) .nil (.idx (.lst (.cons (nE 0) (.cons (nE 1) (.cons (.cst V.non) .nil)))) (.call 28 (.cons (.var 1) (.cons (nE 3) .nil)))))) .nil) .nil)
noncomputable def c_6:S:=(.ifs (.cmp .eq (.var 2) (nE 3)) (.cons (.asg (.name 7) (.call 28 (.cons (.var 0) (.cons (.var 3) .nil)))) (.cons (.ifs (.cmp .isnot (.idx (.var 6) (.var 7)) (.cst V.non)) (.cons (.put (.var 6) (.var 7) (.bin .sub (nE 1) (.idx (.var 6) (.var 7)))) .nil) .nil) .nil)) .nil)
noncomputable def c_7:S:=(.ret (.var 6))
theorem qH3:b34=(.cons c_0 (.cons c_1 (.cons c_2 (.cons c_3 (.cons c_4 (.cons c_5 (.cons c_6 (.cons c_7 .nil)))))))):=rfl
theorem ZJ{f:T->T->Option Bool}:∀xs:List T,(∀x∈xs,f x x=some true)->∃bs,qt f xs xs=some bs/\bs.all id=true
 | [],_=>⟨[],rfl,rfl⟩
 |x::xs,h=>by
  obtain⟨bs,e,a⟩:=ZJ xs λy hy=>h y (by simp[hy]);refine⟨true::bs,?_,by simpa using a⟩;rw[qt,h x (by simp),e]
theorem qFJ(M:Mem)(d n:Nat)(S cm:Nat->Bool):eqT M (d+1) (cmT n S cm) (cmT n S cm)=some true:=by
 obtain⟨bs,e,a⟩:=ZJ (f:=eqT M d) ((List.range n).map (cmE S cm)) λx hx=>by
  obtain⟨t,_,rfl⟩:=wW.mp hx;unfold cmE;cases S t
  ·cases d<;>simp[eqT,T.isV,N,eqF]
  ·cases d<;>simp[eqT,T.isV,eqF]
 show (if ((List.range n).map (cmE S cm)).length=((List.range n).map (cmE S cm)).length then (qt (eqT M d) _ _).map (λbs=>bs.all id) else some false)=some true;rw[if_pos rfl,e];simp[a]
theorem qA2(n:Nat)(S cm:Nat->Bool):T.lfs ((List.range n).map (cmE S cm))=true:=by
 have:∀L:List Nat,T.lfs (L.map (cmE S cm))=true:=by
  intro L
  induction L with
  |nil=>rfl
  |cons x L ih=>rw[List.map_cons,T.lfs,K2,ih];rfl
 exact this _
theorem qB1{S cm:Nat->Bool}{t:Nat}(h:S t=true):cmE S cm t=.v .non:=by unfold cmE;rw[h];rfl
def CmP(z:T):Prop:=z=.v .non\/z=N 0\/z=N 1
noncomputable def qHg:Option T->Int
 |some (.v (.int i))=>i
 |_=>5
theorem qDy{zs:List T}{n:Nat}(hl:zs.length=n)(h:∀z∈zs,CmP z):∃S cm:Nat->Bool,zs=(List.range n).map (cmE S cm):=by
 classical
 refine⟨λt=>decide (zs[t]?=some (.v .non)),λt=>decide (zs[t]?=some (N 1)),List.ext_getElem (by simp[hl]) λi h1 h2=>?_⟩;have ez:=wD h1;rw[vq,List.getElem_range];rcases h zs[i] (vb h1) with e|e|e
 ·rw[e]at ez ⊢;exact(qB1 (uI ez)).symm
 ·rw[e]at ez ⊢;rw[A0 (uH (by rw[ez];exact nofun)),uH (by rw[ez];exact λh=>absurd (congrArg qHg h) (by decide))];rfl
 ·rw[e]at ez ⊢;rw[A0 (uH (by rw[ez];exact nofun)),uI ez];rfl
theorem qAt{z:T}(h:CmP z):z.lf=true:=by rcases h with rfl|rfl|rfl<;>rfl
theorem B8:∀{zs:List T},(∀z∈zs,CmP z)->T.lfs zs=true
 | [],_=>rfl
 |z::zs,h=>by rw[T.lfs,qAt (h z (by simp)),B8 λy hy=>h y (by simp[hy])];rfl
theorem JK(n:Nat):∀{zs:List T},(∀z∈zs,CmP z)->jw n zs=(zs,[])
 | [],_=>rfl
 |z::zs,h=>by
  have e:thaw n z=(z,[]):=by rcases h z (by simp) with rfl|rfl|rfl<;>rfl
  have:=JK n (zs:=zs) λy hy=>h y (by simp[hy]);simp[jw,e,this]
theorem v3{n:Nat}{zs:List T}(h:∀z∈zs,CmP z):thaw n (.lst zs)=(.cell n,[zs]):=by
 simp[thaw,JK n h]
theorem zZ{n:Nat}{M M':Mem}(k:Kept n M M')(h:WfM M):WfM M':=by
 unfold WfM at *;rw[List.all_eq_true]at *;intro c hc;obtain⟨j,hj⟩:=List.mem_iff_getElem?.mp hc;rw[k.len];by_cases e:j=n
 ·obtain⟨g,s,hg,_⟩:=k.good;rw[e,hg]at hj;cases hj;rfl
 ·rw[k.oth j e]at hj;exact h c (wT hj)
theorem E8{n:Nat}{A B:Mem}{c:List T}(k:Kept n (A++[c]) B)(hn:n<A.length):∃A',B=A'++[c]/\Kept n A A':=by
 have hl:=k.len;rw[wV]at hl;have hl:B.length=A.length+1:=hl;have hc:B[A.length]?=some c:=by rw[k.oth A.length (by omega)];simp
 have e:B=B.take A.length++[c]:=by
  have h1:=(List.take_append_drop A.length B).symm;rw[vd (by omega:A.length<B.length),vm (by omega)]at h1;rw[wD (by omega)]at hc;rw[Option.some.inj hc]at h1;exact h1
 have lt:(B.take A.length).length=A.length:=by rw[vZ];omega
 obtain⟨g,s,hg,hs⟩:=k.good;refine⟨_,e,⟨g,s,?_,hs⟩,lt,λj hj=>?_⟩
 ·rw[vA hn];exact hg
 ·by_cases h:j<A.length
  ·rw[vA h,k.oth j hj,wC h]
  ·rw[vK (by omega),vK (by omega)]
theorem w9{M C:Mem}{ts:List T}(hW:WfM M)(ht:T.lfs ts=true):Zz M.length (.ok (.rt (.lst ts,true),M++C))=.ok ((.lst ts,true),M):=by
 show _P.finish M.length _ _=_;unfold _P.finish;by_cases hb:(M++C).length=M.length
 ·have:C=[]:=wq.mp (by simp at hb;simp[hb]);subst this;rw[if_pos hb,wd]
 ·rw[if_neg hb,List.take_left' rfl,if_pos (show M.all (T.unds M.length)=true from hW)];dsimp only;rw[show qR (M++C) M.length 6 (.lst ts)=some (.lst ts) by unfold qR;rw[if_pos (show T.und _ (.lst ts)=true from qFt _ ht)]];rfl
theorem W6{its zs:List T}(h:jb (λ_ z=>CmP z) its zs):∀z∈zs,CmP z:=by
 induction its generalizing zs with
 |nil=>cases h;intro z hz;cases hz
 |cons x its ih=>
  obtain⟨y,ys,rfl,p,q⟩:=h;intro z hz;rcases wJ.mp hz with rfl|hz
  ·exact p
  ·exact ih q z hz
section
variable{k:Nat}
theorem f29(hk:1<=k)(i:Nat)(M:Mem):Pk (glT gs) Fs Cs k 29 [N i] M=.ok (bT true,M):=by
 rw[qN t29 ⟨rfl,by decide⟩ hk];simp[b29,jY,qB]
theorem C3(hk:16<=k){M:Mem}(hW:WfM M){s:Nat}{F X:List Nat}{S cm:Nat->Bool}(c:Cde s F X):Pk (glT gs) Fs Cs k 38 [cdt s (NL F) (NL X),cmT (2 ^ s) S cm] M=.ok (bT true,M):=by
 obtain⟨Cc,hCc⟩:∃Cc,Cc=cdt s (NL F) (NL X):=⟨_,rfl⟩
 have j0:zP M Cc (N 0)=some (N s,true):=by rw[hCc,zK];simp
 have j1:zP M Cc (N 1)=some (NL F,false):=by rw[hCc,zK];unfold NL;simp
 have j2:zP M Cc (N 2)=some (NL X,false):=by rw[hCc,zK];unfold NL;simp
 have lf1:jS M .list [NL F]=some (NL F,true):=(IsL.nl M F).list;have lf2:jS M .list [NL X]=some (NL X,true):=(IsL.nl M X).list;have lf3:jS M .list [cmT (2 ^ s) S cm]=some (cmT (2 ^ s) S cm,true):=by
  show some (lT ((List.range (2 ^ s)).map (cmE S cm)))=_;unfold lT;rw[qA2];rfl
 have hh:T.tup [N s,NL F,NL X]=Cc:=hCc.symm;obtain⟨b,hb⟩:∃b,Cc.lf=b:=⟨_,rfl⟩
 have i0:zP M (.lst [Cc,cmT (2 ^ s) S cm]) (N 0)=some (Cc,b):=by rw[QC,<-hb];rfl
 have i1:zP M (.lst [Cc,cmT (2 ^ s) S cm]) (N 1)=some (cmT (2 ^ s) S cm,false):=by rw[QC];rfl
 have q14:=hmf (k:=k-1) (by omega) (M:=M) (S:=S) (cm:=cm) c (Il.nl M F) (Il.nl M X);have q37:=f37 (k:=k-1) (by omega) hW (S:=S) (cm:=cm) c (Il.nl M F) (Il.nl M X);rw[<-hCc]at q14 q37;have q29:=f29 (k:=k-1) (by omega) (CT s F X S cm) M;have eqL:∀(d:Nat) (L:List Nat),eqT M (d+1) (NL L) (NL L)=some true:=λd L=>by rw[qAh,uI rfl]
 have eqC:eqT M 3 Cc Cc=some true:=by
  rw[hCc];unfold eqT;have en:eqT M 2 (N s) (N s)=some true:=by unfold eqT N;simp[T.isV,eqF]
  simp only[T.isV,T.lis,T.its,if_true];unfold qt;rw[en];unfold qt;rw[eqL];unfold qt;rw[eqL];rfl
 have eq7:zB M .eq (.lst [Cc,cmT (2 ^ s) S cm]) (.lst [Cc,cmT (2 ^ s) S cm])=some true:=by
  unfold zB;dsimp only;unfold eqT;simp only[qB3,qEy,if_true];unfold qt;rw[eqC];unfold qt;rw[qFJ];rfl
 rw[qN t38 ⟨rfl,by decide⟩ (by omega),b38,show Cs.getD 38 []=[] from rfl,<-hCc];generalize cmT (2 ^ s) S cm=CM at *;generalize NL F=Y1 at *;generalize NL X=Y2 at *;generalize CT s F X S cm=Y3 at *;simp[j0,j1,j2,lf1,lf2,lf3,lim,hh,i0,i1,q14,q29,q37,eq7,qB,bT]
end
end _M
namespace _M
open PySem PySem.Spec _P
open _L (V)
theorem C4{M:Mem}{n:Nat}{C:Mem}(g:O9 M n):O9 (M++C) n:=by
 obtain⟨a,b,e,h⟩:=g;exact⟨a,b,by rw[wC (wB.mp e).1];exact e,h⟩
theorem Y7{M:Mem}{n:Nat}(g:O9 M n):n<M.length:=by
 obtain⟨a,b,e,h⟩:=g;exact(wB.mp e).1
theorem qCs{z:T}{M:Mem}(h:CmP z)(hn:zB M .isnot z (.v .non)=some true):∃x,z=N x/\x<2:=by
 rcases h with rfl|rfl|rfl
 ·cases hn
 ·exact⟨0,rfl,by decide⟩
 ·exact⟨1,rfl,by decide⟩
theorem r9{z:T}{M:Mem}(h:CmP z):∃b,zB M .isnot z (.v .non)=some b:=by
 rcases h with rfl|rfl|rfl
 ·exact⟨false,rfl⟩
 ·exact⟨true,rfl⟩
 ·exact⟨true,rfl⟩
theorem qDh{x:Nat}(h:x<2):CmP (N x):=by
 rcases(by omega:x=0\/x=1) with rfl|rfl
 ·exact .inr (.inl rfl)
 ·exact .inr (.inr rfl)
section
variable{k:Nat}
theorem qFZ(hk:2<=k){M:Mem}{n:Nat}(g:O9 M n)(hW:WfM M){s:Nat}{F X:List Nat}(c:Cde s F X)(o2 o3 o4 o5 o6 o7:Option T):
  ∃W M',px (glT gs) (Pk (glT gs) Fs Cs k) [6] c_2 [some (.cell n),some (cdt s (NL F) (NL X)),o2,o3,o4,o5,o6,o7] M=.ok (.nx [some (.cell n),some (cdt s (NL F) (NL X)),o2,o3,some (NL W),o5,o6,o7],M')/\Kept n M M'/\W.length=2 ^ s/\∀x∈W,x<2:=by
 have n5:=c.n5;have l:=c.len;obtain⟨E,M1,e4,k1,lE,hE⟩:=Zs (gl:=glT gs) (P:=Pk (glT gs) Fs Cs k) (e:=pe (glT gs) (Pk (glT gs) Fs Cs k) (.call 28 (.cons (.var 1) (.cons (nE 2) .nil)))) (σ:=[some (.cell n)]) (I:=λM'=>Kept n M M') (R:=λy=>y<2) F [] true none M (by simp[lim];omega) (Kept.refl g) (λx _ M' hM'=>by
  obtain⟨d,M'',e,hd,kk⟩:=out (k:=k) (by omega) hM'.good (m:=2) (by decide);refine⟨d,M'',?_,hM'.trans kk,hd⟩;simp[e])
 simp only[List.map_nil,List.nil_append]at e4;have w1:=zZ k1 hW;have e31:=qEO (k:=k) (by omega) w1 c (Il.nl M1 F) (Il.nl M1 X) (Il.nl M1 E) lE;have e32:=qDq (k:=k) (by omega) (x:=crd s F X E) (by rw[QX];omega) M1;have sg:Nt.Sg (2 ^ s) (Nt.word (crd s F X E)):=Nt.word_sg ⟨QX s F X E,qBP c.sg hE⟩;refine⟨Nt.word (crd s F X E),M1,?_,k1,sg.1,sg.2⟩;have j1:zP M (cdt s (NL F) (NL X)) (N 1)=some (NL F,false):=by rw[zK];unfold NL;simp
 have sr:ZE M (NL F)=some (F.map N,[]):=rfl;rw[c_2];clear sg;generalize NL (Nt.word (crd s F X E))=Z1 at *;generalize NL (crd s F X E)=Z2 at *;generalize NL E=Z3 at *;generalize cdt s (NL F) (NL X)=CC at *;generalize NL F=Z4 at *;simp[j1,sr,jG,e4,e31,e32,-zO]
theorem qFF(hk:1<=k){M:Mem}{n:Nat}(g:O9 M n){W:List Nat}{q:Nat}(hl:W.length<=32)(hW:∀x∈W,x<2)(hq:0<q/\q<=1000000)(o1 o2 o3 o6 o7:Option T):
  ∃zs M',px (glT gs) (Pk (glT gs) Fs Cs k) [6] c_4 [some (.cell n),o1,o2,o3,some (NL W),some (N q),o6,o7] M=.ok (.nx [some (.cell n),o1,o2,o3,some (NL W),some (N q),some (.cell M.length),o7],M'++[zs])/\Kept n M M'/\zs.length=W.length/\∀z∈zs,CmP z:=by
 obtain⟨zs,M1,e,k1,hz⟩:=X2 (d:=[]) (gl:=glT gs) (P:=Pk (glT gs) Fs Cs k) (e:=pe (glT gs) (Pk (glT gs) Fs Cs k) (.idx (.lst (.cons (.var 0) (.cons (.cst V.non) .nil))) (.blt .int (.cons (.cmp .eq (.call 28 (.cons (.var 1) (.cons (.var 2) .nil))) (nE 0)) .nil)))) (σ:=[some (.cell n),some (N q)]) (J:=λM'=>Kept n M M') (Pr:=λ_ z=>CmP z) (W.map N) [] true none M (by simp[lim];omega) (Kept.refl g) (λ_ _=>rfl) (λx hx M' hM'=>by
  obtain⟨v,hv,rfl⟩:=wW.mp hx;obtain⟨d,M'',ee,hd,kk⟩:=out (k:=k) (by omega) hM'.good (m:=q) hq;by_cases h0:d=0
  ·subst h0;exact⟨.v .non,M'',by simp[ee,lim],hM'.trans kk,.inl rfl⟩
  ·exact⟨N v,M'',by simp[ee,h0,lim],hM'.trans kk,qDh (hW v hv)⟩)
 rw[List.nil_append]at e;have zc:=W6 hz;have zl:=qG hz;refine⟨zs,M1,?_,k1,by rw[<-zl];simp,zc⟩;have th:=v3 (n:=M1.length) zc;have sr:ZE M (NL W)=some (W.map N,[]):=rfl;have ml:=k1.len;rw[c_4,<-ml];clear hz zc;generalize T.lst zs=Z1 at *;generalize NL W=Z2 at *;simp[sr,jG,e,th,-zO]
theorem qFO(hk:1<=k){A:Mem}{zs:List T}{n m w:Nat}(g:O9 A n)(hm:m<=32)(o1 o4 o5 o6 o7:Option T):
  (w≠4->px (glT gs) (Pk (glT gs) Fs Cs k) [6] c_5 [some (.cell n),o1,some (N w),some (N m),o4,o5,o6,o7] (A++[zs])=.ok (.nx [some (.cell n),o1,some (N w),some (N m),o4,o5,o6,o7],A++[zs]))/\
  (w=4->∃ys A',px (glT gs) (Pk (glT gs) Fs Cs k) [6] c_5 [some (.cell n),o1,some (N w),some (N m),o4,o5,o6,o7] (A++[zs])=.ok (.rt (.lst ys,true),A'++[zs])/\Kept n A A'/\ys.length=m/\∀z∈ys,CmP z):=by
 constructor
 ·intro h;rw[c_5];simp[h]
 ·rintro rfl;obtain⟨ys,M1,e,k1,hz⟩:=X2 (d:=[]) (gl:=glT gs) (P:=Pk (glT gs) Fs Cs k) (e:=pe (glT gs) (Pk (glT gs) Fs Cs k) (.idx (.lst (.cons (nE 0) (.cons (nE 1) (.cons (.cst V.non) .nil)))) (.call 28 (.cons (.var 1) (.cons (nE 3) .nil))))) (σ:=[some (.cell n)]) (J:=λM'=>Kept n (A++[zs]) M') (Pr:=λ_ z=>CmP z) ((List.range m).map N) [] true none (A++[zs]) (by simp[lim];omega) (Kept.refl (C4 g)) (λ_ _=>rfl) (λx hx M' hM'=>by
   obtain⟨d,M'',ee,hd,kk⟩:=out (k:=k) (by omega) hM'.good (m:=3) (by decide);rcases(by omega:d=0\/d=1\/d=2) with rfl|rfl|rfl
   ·exact⟨N 0,M'',by simp[ee,lim],hM'.trans kk,.inr (.inl rfl)⟩
   ·exact⟨N 1,M'',by simp[ee,lim],hM'.trans kk,.inr (.inr rfl)⟩
   ·exact⟨.v .non,M'',by simp[ee,lim],hM'.trans kk,.inl rfl⟩)
  rw[List.nil_append]at e;obtain⟨A',rfl,kA⟩:=E8 k1 (Y7 g);refine⟨ys,A',?_,kA,by rw[<-qG hz];simp,W6 hz⟩;have rg:=zb (n:=m) (by omega);rw[c_5];generalize T.lst ys=Z1 at *;simp[rg,jG,e,-zO]
theorem qFN(hk:1<=k){A:Mem}{zs:List T}{n w:Nat}(g:O9 A n)(hm:0<zs.length/\zs.length<=32)(hz:∀z∈zs,CmP z)(o1 o4 o5 o7:Option T):
  ∃p7 ys A',px (glT gs) (Pk (glT gs) Fs Cs k) [6] c_6 [some (.cell n),o1,some (N w),some (N zs.length),o4,o5,some (.cell A.length),o7] (A++[zs])=.ok (.nx [some (.cell n),o1,some (N w),some (N zs.length),o4,o5,some (.cell A.length),p7],A'++[ys])/\Kept n A A'/\ys.length=zs.length/\∀z∈ys,CmP z:=by
 by_cases h:w=3
 ·subst h;obtain⟨d,M1,e,hd,k1⟩:=out (k:=k) (by omega) (C4 (C:=[zs]) g) (m:=zs.length) (by omega);obtain⟨A',rfl,kA⟩:=E8 k1 (Y7 g);have la:=kA.len;have at1:(A'++[zs])[A.length]?=some zs:=by rw[<-la];simp
  have hdz:zs[d]?=some zs[d]:=wD hd;have cz:=hz zs[d] (vb hd);have ix:zP (A'++[zs]) (.cell A.length) (N d)=some (zs[d],true):=by
   have a:zP (A'++[zs]) (.cell A.length) (N d)=zP (A'++[zs]) (.lst zs) (N d):=by
    show ((A'++[zs])[A.length]?).bind _=_;rw[at1];rfl
   rw[a,QC,hdz,Option.map_some,qAt cz]
  obtain⟨b,hb⟩:=r9 (M:=A'++[zs]) cz;cases b with
  |false=>
   refine⟨some (N d),zs,A',?_,kA,rfl,hz⟩;rw[c_6];generalize zs[d]=Z1 at *;generalize A'++[zs]=M2 at *;simp[e,ix,hb,-qDz]
  |true=>
   obtain⟨x,hx,x2⟩:=qCs cz hb;have sb:qg (A'++[zs]) .sub (N 1) (N x)=some (N (1-x),true):=QT (by omega);have pt:qCl (A'++[zs]) (.cell A.length) (N d) (N (1-x))=some (A'++[zs.set d (N (1-x))]):=by
    rw[qAw at1 hd,<-la,JD]
   refine⟨some (N d),zs.set d (N (1-x)),A',?_,kA,by simp,λz hz'=>?_⟩
   ·rw[c_6];rw[hx]at ix hb;generalize A'++[zs.set d (N (1-x))]=M3 at *;generalize A'++[zs]=M2 at *;simp[e,ix,hb,sb,pt,-qDz,-qBW]
   ·rcases List.mem_or_eq_of_mem_set hz' with y|rfl
    ·exact hz z y
    ·exact qDh (by omega)
 ·refine⟨o7,zs,A,?_,Kept.refl g,rfl,hz⟩;rw[c_6];simp[h]
theorem qHC(hk:3<=k){M:Mem}{n:Nat}(g:O9 M n)(hW:WfM M){s:Nat}{F X:List Nat}(c:Cde s F X):
  ∃S cm M',Pk (glT gs) Fs Cs k 34 [.cell n,cdt s (NL F) (NL X)] M=.ok ((cmT (2 ^ s) S cm,true),M')/\Kept n M M':=by
 have n5:=c.n5;have np:0<2 ^ s:=vg s;obtain⟨w,M1,e0,hw,k1⟩:=out (k:=k-1) (by omega) g (m:=5) (by decide);have w1:=zZ k1 hW;have sl:∀{M:Mem},qg M .shl (N 1) (N s)=some (N (2 ^ s),true):=λ{M}=>by rw[Jk (by have:=c.s5;omega),vw]
 obtain⟨W,M2,e2,k2,lW,bW⟩:=qFZ (k:=k-1) (by omega) k1.good w1 c (some (N w)) (some (N (2 ^ s))) none none none none;have w2:=zZ k2 w1;obtain⟨q,M3,e3,hq,k3⟩:=out (k:=k-1) (by omega) k2.good (m:=4) (by decide);have w3:=zZ k3 w2;obtain⟨zs,M4,e4,k4,lz,bz⟩:=qFF (k:=k-1) (by omega) k3.good (W:=W) (q:=1+q) (by omega) bW (by omega) (some (cdt s (NL F) (NL X))) (some (N w)) (some (N (2 ^ s))) none none;have w4:=zZ k4 w3;have q4:=((k1.trans k2).trans k3).trans k4;have x0:px (glT gs) (Pk (glT gs) Fs Cs (k-1)) [6] c_0 [some (.cell n),some (cdt s (NL F) (NL X)),none,none,none,none,none,none] M=.ok (.nx [some (.cell n),some (cdt s (NL F) (NL X)),some (N w),none,none,none,none,none],M1):=by
  generalize cdt s (NL F) (NL X)=CC at *;rw[c_0];simp[e0]
 have x1:px (glT gs) (Pk (glT gs) Fs Cs (k-1)) [6] c_1 [some (.cell n),some (cdt s (NL F) (NL X)),some (N w),none,none,none,none,none] M1=.ok (.nx [some (.cell n),some (cdt s (NL F) (NL X)),some (N w),some (N (2 ^ s)),none,none,none,none],M1):=by
  have j0:zP M1 (cdt s (NL F) (NL X)) (N 0)=some (N s,true):=by rw[zK];simp
  generalize cdt s (NL F) (NL X)=CC at *;rw[c_1];simp[j0,sl]
 have x3:px (glT gs) (Pk (glT gs) Fs Cs (k-1)) [6] c_3 [some (.cell n),some (cdt s (NL F) (NL X)),some (N w),some (N (2 ^ s)),some (NL W),none,none,none] M2=.ok (.nx [some (.cell n),some (cdt s (NL F) (NL X)),some (N w),some (N (2 ^ s)),some (NL W),some (N (1+q)),none,none],M3):=by
  have ad:∀M:Mem,qg M .add (N 1) (N q)=some (N (1+q),true):=λM=>Qs 1 q;generalize cdt s (NL F) (NL X)=CC at *;generalize NL W=Z1 at *;rw[c_3];simp[e3,ad]
 rw[qN t34 ⟨rfl,by decide⟩ (by omega),qH3,show Cs.getD 34 []=[6] from rfl];show ∃S cm M',Zz M.length (pxs (glT gs) (Pk (glT gs) Fs Cs (k-1)) [6] _ [some (.cell n),some (cdt s (NL F) (NL X)),none,none,none,none,none,none] M)=_/\_;rw[zD x0,zD x1,zD e2,zD x3,zD e4];have lz2:zs.length=2 ^ s:=by omega
 obtain⟨no,yes⟩:=qFO (k:=k-1) (zs:=zs) (by omega) (m:=2 ^ s) (w:=w) k4.good n5 (some (cdt s (NL F) (NL X))) (some (NL W)) (some (N (1+q))) (some (.cell M3.length)) none;by_cases h4:w=4
 ·obtain⟨ys,A',e5,kA,ly,by_⟩:=yes h4;rw[qC5 e5];obtain⟨S,cm,hcm⟩:=qDy ly by_;have kk:=q4.trans kA;refine⟨S,cm,A',?_,kk⟩;have lv:=w9 (M:=A') (C:=[zs]) (zZ kA w4) (B8 by_);rw[<-kk.len,lv,hcm];rfl
 ·rw[zD (no h4)];obtain⟨p7,ys,A',e6,kA,ly,by_⟩:=qFN (k:=k-1) (w:=w) (by omega) k4.good (by omega) bz (some (cdt s (NL F) (NL X))) (some (NL W)) (some (N (1+q))) none;rw[lz2,k4.len]at e6;rw[zD e6];obtain⟨S,cm,hcm⟩:=qDy (ly.trans lz2) by_;have kk:=q4.trans kA;refine⟨S,cm,A',?_,kk⟩;have la:A'.length=M3.length:=kA.len.trans k4.len;have lv:=jy (M:=M) (A:=A') (C:=[ys]) (c:=M3.length) (ts:=ys) kk.len (zZ kA w4) (by rw[<-la];simp) (by omega) (B8 by_) false;have x7:pxs (glT gs) (Pk (glT gs) Fs Cs (k-1)) [6] (.cons c_7 .nil) [some (.cell n),some (cdt s (NL F) (NL X)),some (N w),some (N (2 ^ s)),some (NL W),some (N (1+q)),some (.cell M3.length),p7] (A'++[ys])=.ok (.rt (.cell M3.length,false),A'++[ys]):=by
   rw[c_7];simp
  rw[x7,lv,hcm];rfl
end
end _M
namespace _M
open PySem PySem.Spec _P
open _L (V)
open Ft (xl zH kx zh qF qS ql)
theorem T3{n t:Nat}(ht:t<n)(f:Nat->Bool):xl (List.range n) (λp=>(2 ^ t).testBit p&&f p)=f t:=by
 have h:=Ft.xl_filter (λp=>decide (t=p)) f (List.range n);have e:(List.range n).filter (λp=>decide (t=p))=[t]:=by
  induction n with
  |zero=>omega
  |succ n ih=>
   rw[uB,List.filter_append];by_cases h:t=n
   ·subst h;have:(List.range t).filter (λp=>decide (t=p))=[]:=List.filter_eq_nil_iff.mpr λp hp=>by
     have:=wZ.mp hp;simp;omega
    rw[this];simp
   ·rw[ih (by omega) (Ft.xl_filter _ _ _)];simp[h]
 rw[e]at h;rw[Ft.xl_congr (g:=λp=>decide (t=p)&&f p) λp _=>by rw[vO],<-h];show (f t ^^ false)=f t;cases f t<;>rfl
theorem ZR{n t:Nat}(ht:t<n)(κ c:Nat->Bool):zH n κ c (sm n t)=(zH n κ (λ_=>false) (sm n t) ^^ c t):=by
 unfold zH;rw[show (sm n t).2=2 ^ t from rfl,T3 ht,T3 ht,Bool.xor_false]
theorem S5{n:Nat}{S:Nat->Bool}{κ c:Nat->Bool}:((sms n S).all λl=>!zH n κ c l)=true↔∀t,t<n->S t=false->zH n κ c (sm n t)=false:=by
 rw[List.all_eq_true];constructor
 ·intro h t ht hs;have:=h _ (wW.mpr ⟨t,mem_kept.mpr ⟨ht,hs⟩,rfl⟩);simpa using this
 ·intro h l hl;obtain⟨t,ht,rfl⟩:=wW.mp hl;obtain⟨a,b⟩:=mem_kept.mp ht;rw[h t a b];rfl
theorem qAY{n a:Nat}{S:Nat->Bool}{κ c d:Nat->Bool}(ha:a<n)(hd:∀t,t≠a->d t=c t):((sms n (qF S a false)).all λl=>!zH n κ d l)=(((sms n (qF S a true)).all λl=>!zH n κ c l)&&!(zH n κ (λ_=>false) (sm n a) ^^ d a)):=by
 have iff:∀{x y:Bool},(x=true↔y=true)->x=y:=λ{x y} h=>by cases x<;>cases y<;>simp_all
 refine iff ?_;rw[S5,wE,S5];constructor
 ·intro h;refine⟨λt ht hs=>?_,?_⟩
  ·have ne:t≠a:=λe=>by rw[e,qS]at hs;cases hs
   have:=h t ht (by rw[ql ne]at hs ⊢;exact hs);rw[ZR ht,hd t ne]at this;rw[ZR ht];exact this
  ·have:=h a ha (qS _ _ _);rw[ZR ha]at this;rw[this];rfl
 ·rintro⟨h1,h2⟩ t ht hs;by_cases e:t=a
  ·subst e;rw[ZR ht];simpa using h2
  ·have:=h1 t ht (by rw[ql e]at hs ⊢;exact hs);rw[ZR ht]at this;rw[ZR ht,hd t e];exact this
theorem G6{s a:Nat}{F X:List Nat}{S c d0 d1:Nat->Bool}(ha:a<2 ^ s)(h0:∀t,t≠a->d0 t=c t)(h1:∀t,t≠a->d1 t=c t)(hn:d1 a=!d0 a):CT s F X (qF S a false) d0+CT s F X (qF S a false) d1=CT s F X (qF S a true) c:=by
 unfold CT;refine Ft.cnt_add (λx=>?_) F;rw[qAY ha h0,qAY ha h1,hn];generalize ((sms (2 ^ s) (qF S a true)).all λl=>!zH (2 ^ s) (kx F (fxB F X) x) c l)=A;generalize zH (2 ^ s) (kx F (fxB F X) x) (λ_=>false) (sm (2 ^ s) a)=B;generalize d0 a=D;cases A<;>cases B<;>cases D<;>rfl
theorem B6{S:Nat->Bool}{a:Nat}{b:Bool}(h:S a=b):qF S a b=S:=by
 funext t
 by_cases e:t=a
 ·rw[e,qS,h]
 ·rw[ql e]
theorem two_pow_sum{a b c:Nat}(h:2 ^ a+2 ^ b=2 ^ c):a=b:=by
 have key:∀a b,a<b->2 ^ a+2 ^ b=2 ^ c->False:=λa b l h=>by
  have p1:2 ^ a<2 ^ b:=Nat.pow_lt_pow_right (by decide) l;have p0:=vg a;have q1:b<c:=(Nat.pow_lt_pow_iff_right (by decide:1<2)).mp (by omega:2 ^ b<2 ^ c);have q2:c<b+1:=(Nat.pow_lt_pow_iff_right (by decide:1<2)).mp (by rw[Nat.pow_succ];omega:2 ^ c<2 ^ (b+1));omega
 rcases Nat.lt_trichotomy a b with l|l|l
 ·exact(key a b l h).elim
 ·exact l
 ·exact(key b a l (by omega)).elim
theorem qCF{s a:Nat}{F X:List Nat}{S c:Nat->Bool}(cd:Cde s F X)(ha:a<2 ^ s):CT s F X S c=0\/CT s F X (qF S a true) c∈[CT s F X S c,2*CT s F X S c]:=by
 cases hS:S a
 ·have sp:=G6 (F:=F) (X:=X) (S:=S) (c:=c) (d0:=c) (d1:=qF c a (!c a)) ha (λ_ _=>rfl) (λt h=>ql h) (qS _ _ _);rw[B6 hS]at sp;rcases j4 (k:=12) (by decide) cd S c with e1|⟨r,e1⟩
  ·exact .inl e1
  ·refine .inr ?_;rcases j4 (k:=12) (by decide) cd S (qF c a (!c a)) with e2|⟨q,e2⟩
   ·rw[e2]at sp;simp[<-sp]
   ·rcases j4 (k:=12) (by decide) cd (qF S a true) c with e3|⟨u,e3⟩
    ·have:=vg r;rw[e3,e1]at sp;omega
    ·rw[e1,e2,e3]at sp;have:=two_pow_sum sp;subst this;rw[e3,e1,<-sp];simp;omega
 ·rw[B6 hS];exact .inr (by simp)
theorem qFw{s:Nat}{F X:List Nat}(c:Cde s F X)(S cm:Nat->Bool):CT s F X S cm<18446744073709551616:=by
 obtain⟨r,_,h⟩:=f15 (k:=12) (by decide) (M:=[]) (S:=S) (cm:=cm) c (Il.nl [] F) (Il.nl [] X);rcases h with⟨_,h⟩|⟨d,hd,_,h⟩
 ·rw[h];decide
 ·rw[h];exact vi (wo (by decide) hd) (by decide)
theorem qDu{n a:Nat}{S S' c c':Nat->Bool}(ha:a<n)(h:∀t,t≠a->cmE S' c' t=cmE S c t):((List.range n).map (cmE S c)).take a++[cmE S' c' a]++((List.range n).map (cmE S c)).drop (a+1)=(List.range n).map (cmE S' c'):=by
 have e:((List.range n).map (cmE S c)).set a (cmE S' c' a)=((List.range n).map (cmE S c)).take a++[cmE S' c' a]++((List.range n).map (cmE S c)).drop (a+1):=by
  rw[List.set_eq_take_append_cons_drop,if_pos (by simpa using ha),wm];rfl
 rw[<-e];refine List.ext_getElem (by simp) λi h1 h2=>?_;rw[List.getElem_set];simp only[vq,List.getElem_range];by_cases z:a=i
 ·rw[if_pos z,z]
 ·rw[if_neg z,h i (λw=>z w.symm)]
section
variable{k:Nat}
theorem slE{P:Nat->List T->Mem->PR (TB×Mem)}{n a:Nat}{S S' c c':Nat->Bool}(ha:a<n)(hn:n<=100)(h:∀t,t≠a->cmE S' c' t=cmE S c t){e:E}{M M':Mem}{a0 a1 a2 a3 a6 a7 a8 a9:Option T}(he:pe (glT gs) P e [a0,a1,a2,a3,some (cmT n S c),some (N a),a6,a7,a8,a9] M=.ok ((cmE S' c' a,true),M')):
  pe (glT gs) P (.bin .add (.bin .add (.sl (.var 4) .nil (.cons (.var 5) .nil)) (.lst (.cons e .nil))) (.sl (.var 4) (.cons (.bin .add (.var 5) (nE 1)) .nil) .nil)) [a0,a1,a2,a3,some (cmT n S c),some (N a),a6,a7,a8,a9] M=.ok ((cmT n S' c',true),M'):=by
 have cs:=qDu ha h;have its:∀M:Mem,(cmT n S c).its M=some ((List.range n).map (cmE S c)):=λ_=>rfl;have sl1:∀lo hi,qA8 (cmT n S c) ((List.range n).map (cmE S c)) lo hi=some (lT (JF ((List.range n).map (cmE S c)) lo hi)):=λ_ _=>rfl;have c1:JF ((List.range n).map (cmE S c)) none (some (a:Int))=((List.range n).map (cmE S c)).take a:=R7 (by simp;omega);have c2:JF ((List.range n).map (cmE S c)) (some ((a:Int)+1)) none=((List.range n).map (cmE S c)).drop (a+1):=JT (m:=a+1) (by simp;omega);have lfsub:∀L:List T,(∀x∈L,x∈(List.range n).map (cmE S c))->T.lfs L=true:=by
  intro L
  induction L with
  |nil=>intro _;rfl
  |cons x L ih=>
   intro hx;obtain⟨t,_,rfl⟩:=wW.mp (hx x (by simp));rw[T.lfs,K2,ih λy hy=>hx y (by simp[hy])];rfl
 have l1:=lfsub (((List.range n).map (cmE S c)).take a) λx hx=>List.mem_of_mem_take hx;have l2:=lfsub (((List.range n).map (cmE S c)).drop (a+1)) λx hx=>List.mem_of_mem_drop hx;have t1:lT (((List.range n).map (cmE S c)).take a)=(.lst (((List.range n).map (cmE S c)).take a),true):=by unfold lT;rw[l1]
 have t2:lT (((List.range n).map (cmE S c)).drop (a+1))=(.lst (((List.range n).map (cmE S c)).drop (a+1)),true):=by unfold lT;rw[l2]
 have n1:(((List.range n).map (cmE S c)).take a).length<=n:=by simp;omega
 have n2:(((List.range n).map (cmE S c)).drop (a+1)).length<=n:=by simp
 have lfa:∀A B:List T,T.lfs (A++B)=(T.lfs A&&T.lfs B):=by
  intro A B
  induction A with
  |nil=>simp[T.lfs]
  |cons x A ih=>rw[List.cons_append,T.lfs,T.lfs,ih,vo]
 have l3:T.lfs (((List.range n).map (cmE S c)).take a++[cmE S' c' a])=true:=by rw[lfa,l1,T.lfs,K2];rfl
 have ad1:∀M:Mem,qg M .add (.lst (((List.range n).map (cmE S c)).take a)) (.lst [cmE S' c' a])=some (.lst (((List.range n).map (cmE S c)).take a++[cmE S' c' a]),true):=λM=>by
  rw[J0 (by simp[lim];omega)];unfold lT;rw[l3]
 have ad2:∀M:Mem,qg M .add (.lst (((List.range n).map (cmE S c)).take a++[cmE S' c' a])) (.lst (((List.range n).map (cmE S c)).drop (a+1)))=some (cmT n S' c',true):=λM=>by
  rw[J0 (by simp[lim];omega),cs];unfold lT;rw[qA2];rfl
 have ii:qk [N a]=some [(a:Int)]:=rfl;have ii2:qk [N (a+1)]=some [((a+1:Nat):Int)]:=rfl;have ii0:qk []=some []:=rfl;clear cs l1 l2 l3 n1 n2 lfsub h;generalize cmT n S' c'=R at *;generalize cmT n S c=Q at *;generalize ((List.range n).map (cmE S c)).take a=w1 at *;generalize ((List.range n).map (cmE S c)).drop (a+1)=w2 at *;generalize (List.range n).map (cmE S c)=w0 at *;generalize cmE S' c' a=z at *;have ad0:∀M:Mem,qg M .add (N a) (N 1)=some (N (a+1),true):=λM=>Qs a 1;simp[its,ii,ii0,ii2,sl1,c1,c2,t1,t2,he,ad0,ad1,ad2,lim]
end
end _M
namespace _M
open PySem PySem.Spec _P
open _L (V)
open Ft (qF qS ql)
noncomputable def qCf(e:E):E:=.bin .add (.bin .add (.sl (.var 4) .nil (.cons (.var 5) .nil)) (.lst (.cons e .nil))) (.sl (.var 4) (.cons (.bin .add (.var 5) (nE 1)) .nil) .nil)
noncomputable def d_0:S:=(.asg (.name 2) (.call 27 (.cons (.var 0) (.cons (.var 1) .nil))))
noncomputable def d_1:S:=(.asg (.name 3) (.call 30 (.cons (.var 2) (.cons (nE 5) .nil))))
noncomputable def d_2:S:=(.asg (.name 4) (.call 34 (.cons (.var 2) (.cons (.var 3) .nil))))
noncomputable def d_3:S:=(.asg (.name 5) (.call 28 (.cons (.var 2) (.cons (.blt .len (.cons (.var 4) .nil)) .nil))))
noncomputable def d_4:S:=(.ifs (.not (.call 38 (.cons (.var 3) (.cons (.var 4) .nil)))) (.cons (.ret (.cst (V.bl false))) .nil) .nil)
noncomputable def d_5:S:=(.asg (.name 6) (.call 14 (.cons (.var 3) (.cons (.var 4) .nil))))
noncomputable def d_6:S:=(.asg (.name 7) (qCf (.call 28 (.cons (.var 2) (.cons (nE 2) .nil)))))
noncomputable def d_7:S:=(.asg (.name 8) (qCf (.cst V.non)))
noncomputable def d_8:S:=(.ifs (.or (.not (.call 38 (.cons (.var 3) (.cons (.var 7) .nil)))) (.or (.not (.call 38 (.cons (.var 3) (.cons (.var 8) .nil)))) (.not (.call 38 (.cons (.var 3) (.cons (.var 4) .nil)))))) (.cons (.ret (.cst (V.bl false))) .nil) .nil)
noncomputable def d_9:S:=(.ifs (.and (.cmp .notin (.call 14 (.cons (.var 3) (.cons (.var 8) .nil))) (.lst (.cons (.var 6) (.cons (.bin .mul (nE 2) (.var 6)) .nil)))) (.cmp .gt (.var 6) (nE 0))) (.cons (.ret (.cst (V.bl false))) .nil) .nil)
noncomputable def qBk:S:=(.asg (.name 9) (qCf (.bin .sub (nE 1) (.idx (.var 7) (.var 5)))))
noncomputable def qCU:S:=(.ifs (.cmp .ne (.bin .add (.call 14 (.cons (.var 3) (.cons (.var 7) .nil))) (.call 14 (.cons (.var 3) (.cons (.var 9) .nil)))) (.var 6)) (.cons (.ret (.cst (V.bl false))) .nil) .nil)
noncomputable def qEq:S:=(.ifs (.cmp .is (.idx (.var 4) (.var 5)) (.cst V.non)) (.cons qBk (.cons qCU .nil)) .nil)
theorem qH0:q8=(.cons d_0 (.cons d_1 (.cons d_2 (.cons d_3 (.cons d_4 (.cons d_5 (.cons d_6 (.cons d_7 (.cons d_8 (.cons d_9 (.cons qEq .nil))))))))))):=rfl
section
variable{k:Nat}
theorem l6(hk:20<=k)(ns:List Int){i:Nat}(hi:i<=62){M:Mem}(hM:WfM M){o2 o3 o4 o5 o6 o7 o8 o9:Option T}:∃p2 p3 p4 p5 p6 p7 p8 p9 M',pxs (glT gs) (Pk (glT gs) Fs Cs k) [2] q8 [some (.fz (ns.map λn=>.v (.int n))),some (N i),o2,o3,o4,o5,o6,o7,o8,o9] M=.ok (.nx [some (.fz (ns.map λn=>.v (.int n))),some (N i),p2,p3,p4,p5,p6,p7,p8,p9],M')/\WfM M':=by
 obtain⟨g0,s0,e1,hb0⟩:=bag (k:=k) (by omega) ns (kk:=i) (by omega) M;have gd:O9 (M++[stT g0 s0]) M.length:=⟨g0,s0,by simp,hb0⟩
 have hM0:WfM (M++[stT g0 s0]):=hM.one (m9 [g0,s0]);obtain⟨s,F,X,f,M1,e2,k1,⟨hs1,hs5⟩,hF0,hFl,hFp,hFX,hXb⟩:=code (k:=k) (by omega) gd;have cde:Cde s F X:=⟨hs1,hs5,hF0,hFl,hFp,hFX,hXb⟩
 have n5:=cde.n5;have np:0<2 ^ s:=vg s;have w1:=zZ k1 hM0;obtain⟨S,cm,M2,e3,k2⟩:=qHC (k:=k) (by omega) k1.good w1 cde;have w2:=zZ k2 w1;obtain⟨a,M3,e4,ha,k3⟩:=out (k:=k) (by omega) k2.good (m:=2 ^ s) (by omega);have w3:=zZ k3 w2;obtain⟨v,M4,e5,hv,k4⟩:=out (k:=k) (by omega) k3.good (m:=2) (by decide);have w4:=zZ k4 w3;have q3:=C3 (k:=k) (by omega) w3 cde (S:=S) (cm:=cm);have h3:=hmf (k:=k) (by omega) (M:=M3) (S:=S) (cm:=cm) cde (Il.nl _ F) (Il.nl _ X);obtain⟨b,hb⟩:∃b:Bool,v=b.toNat:=by
  rcases(by omega:v=0\/v=1) with rfl|rfl
  ·exact⟨false,rfl⟩
  ·exact⟨true,rfl⟩
 subst hb;have hold:cmE (qF S a false) (qF cm a b) a=N b.toNat:=by rw[A0 (qS _ _ _),qS]
 have lost:cmE (qF S a true) cm a=.v .non:=qB1 (qS _ _ _);have othr:cmE (qF S a false) (qF cm a (!b)) a=N (!b).toNat:=by rw[A0 (qS _ _ _),qS]
 have oth1:∀x y t,t≠a->cmE (qF S a x) (qF cm a y) t=cmE S cm t:=λx y t ht=>by unfold cmE;rw[ql ht,ql ht]
 have oth2:∀x t,t≠a->cmE (qF S a x) cm t=cmE S cm t:=λx t ht=>by unfold cmE;rw[ql ht]
 have q4:=C3 (k:=k) (by omega) w4 cde (S:=S) (cm:=cm);have q5:=C3 (k:=k) (by omega) w4 cde (S:=qF S a false) (cm:=qF cm a b);have q6:=C3 (k:=k) (by omega) w4 cde (S:=qF S a true) (cm:=cm);have h5:=hmf (k:=k) (by omega) (M:=M4) (S:=qF S a false) (cm:=qF cm a b) cde (Il.nl _ F) (Il.nl _ X);have h6:=hmf (k:=k) (by omega) (M:=M4) (S:=qF S a true) (cm:=cm) cde (Il.nl _ F) (Il.nl _ X);have h7:=hmf (k:=k) (by omega) (M:=M4) (S:=qF S a false) (cm:=qF cm a (!b)) cde (Il.nl _ F) (Il.nl _ X);have sp:=G6 (F:=F) (X:=X) (S:=S) (c:=cm) (d0:=qF cm a b) (d1:=qF cm a (!b)) ha (λt h=>ql h) (λt h=>ql h) (by rw[qS,qS]);have lo:=qCF (S:=S) (c:=cm) cde ha;have le:=qFw cde S cm;generalize hZ:(ns.map λn=>T.v (.int n))=Z at *;have x0:px (glT gs) (Pk (glT gs) Fs Cs k) [2] d_0 [some (.fz Z),some (N i),o2,o3,o4,o5,o6,o7,o8,o9] M=.ok (.nx [some (.fz Z),some (N i),some (.cell M.length),o3,o4,o5,o6,o7,o8,o9],M++[stT g0 s0]):=by
  have th:thaw M.length (.lst (stT g0 s0))=(.cell M.length,[stT g0 s0]):=S7 M.length [g0,s0];rw[d_0];simp[e1,th]
 have x1:px (glT gs) (Pk (glT gs) Fs Cs k) [2] d_1 [some (.fz Z),some (N i),some (.cell M.length),o3,o4,o5,o6,o7,o8,o9] (M++[stT g0 s0])=.ok (.nx [some (.fz Z),some (N i),some (.cell M.length),some (cdt s (NL F) (NL X)),o4,o5,o6,o7,o8,o9],M1):=by
  generalize (M++[stT g0 s0])=MM at *;rw[show T.tup [N s,NL F,NL X]=cdt s (NL F) (NL X) from rfl]at e2;generalize cdt s (NL F) (NL X)=tc at *;rw[d_1];simp[e2]
 generalize cdt s (NL F) (NL X)=tc at *;have x2:px (glT gs) (Pk (glT gs) Fs Cs k) [2] d_2 [some (.fz Z),some (N i),some (.cell M.length),some tc,o4,o5,o6,o7,o8,o9] M1=.ok (.nx [some (.fz Z),some (N i),some (.cell M.length),some tc,some (cmT (2 ^ s) S cm),o5,o6,o7,o8,o9],M2):=by
  generalize cmT (2 ^ s) S cm=R at *;rw[d_2];simp[e3]
 have x3:px (glT gs) (Pk (glT gs) Fs Cs k) [2] d_3 [some (.fz Z),some (N i),some (.cell M.length),some tc,some (cmT (2 ^ s) S cm),o5,o6,o7,o8,o9] M2=.ok (.nx [some (.fz Z),some (N i),some (.cell M.length),some tc,some (cmT (2 ^ s) S cm),some (N a),o6,o7,o8,o9],M3):=by
  have ln:=R9 (M:=M2) (2 ^ s) S cm;generalize cmT (2 ^ s) S cm=R at *;rw[d_3];simp[ln,e4]
 have x4:px (glT gs) (Pk (glT gs) Fs Cs k) [2] d_4 [some (.fz Z),some (N i),some (.cell M.length),some tc,some (cmT (2 ^ s) S cm),some (N a),o6,o7,o8,o9] M3=.ok (.nx [some (.fz Z),some (N i),some (.cell M.length),some tc,some (cmT (2 ^ s) S cm),some (N a),o6,o7,o8,o9],M3):=by
  simp only[bT]at q3;generalize cmT (2 ^ s) S cm=R at *;rw[d_4];simp[q3]
 have x5:px (glT gs) (Pk (glT gs) Fs Cs k) [2] d_5 [some (.fz Z),some (N i),some (.cell M.length),some tc,some (cmT (2 ^ s) S cm),some (N a),o6,o7,o8,o9] M3=.ok (.nx [some (.fz Z),some (N i),some (.cell M.length),some tc,some (cmT (2 ^ s) S cm),some (N a),some (N (CT s F X S cm)),o7,o8,o9],M3):=by
  generalize cmT (2 ^ s) S cm=R at *;rw[d_5];simp[h3]
 have x6:px (glT gs) (Pk (glT gs) Fs Cs k) [2] d_6 [some (.fz Z),some (N i),some (.cell M.length),some tc,some (cmT (2 ^ s) S cm),some (N a),some (N (CT s F X S cm)),o7,o8,o9] M3=.ok (.nx [some (.fz Z),some (N i),some (.cell M.length),some tc,some (cmT (2 ^ s) S cm),some (N a),some (N (CT s F X S cm)),some (cmT (2 ^ s) (qF S a false) (qF cm a b)),o8,o9],M4):=by
  have sl:=slE (P:=Pk (glT gs) Fs Cs k) ha (by omega) (oth1 false b) (e:=.call 28 (.cons (.var 2) (.cons (nE 2) .nil))) (M:=M3) (M':=M4) (a0:=some (.fz Z)) (a1:=some (N i)) (a2:=some (.cell M.length)) (a3:=some tc) (a6:=some (N (CT s F X S cm))) (a7:=o7) (a8:=o8) (a9:=o9) (by rw[hold];simp[e5]);rw[d_6,Zi];unfold qCf;rw[sl];generalize cmT (2 ^ s) S cm=R at *;generalize cmT (2 ^ s) (qF S a false) (qF cm a b)=R2 at *;simp
 have x7:px (glT gs) (Pk (glT gs) Fs Cs k) [2] d_7 [some (.fz Z),some (N i),some (.cell M.length),some tc,some (cmT (2 ^ s) S cm),some (N a),some (N (CT s F X S cm)),some (cmT (2 ^ s) (qF S a false) (qF cm a b)),o8,o9] M4=.ok (.nx [some (.fz Z),some (N i),some (.cell M.length),some tc,some (cmT (2 ^ s) S cm),some (N a),some (N (CT s F X S cm)),some (cmT (2 ^ s) (qF S a false) (qF cm a b)),some (cmT (2 ^ s) (qF S a true) cm),o9],M4):=by
  have sl:=slE (P:=Pk (glT gs) Fs Cs k) ha (by omega) (oth2 true) (e:=.cst V.non) (M:=M4) (M':=M4) (a0:=some (.fz Z)) (a1:=some (N i)) (a2:=some (.cell M.length)) (a3:=some tc) (a6:=some (N (CT s F X S cm))) (a7:=some (cmT (2 ^ s) (qF S a false) (qF cm a b))) (a8:=o8) (a9:=o9) (by rw[lost];simp);rw[d_7,Zi];unfold qCf;rw[sl];generalize cmT (2 ^ s) S cm=R at *;generalize cmT (2 ^ s) (qF S a false) (qF cm a b)=R2 at *;generalize cmT (2 ^ s) (qF S a true) cm=R3 at *;simp
 have x8:px (glT gs) (Pk (glT gs) Fs Cs k) [2] d_8 [some (.fz Z),some (N i),some (.cell M.length),some tc,some (cmT (2 ^ s) S cm),some (N a),some (N (CT s F X S cm)),some (cmT (2 ^ s) (qF S a false) (qF cm a b)),some (cmT (2 ^ s) (qF S a true) cm),o9] M4=.ok (.nx [some (.fz Z),some (N i),some (.cell M.length),some tc,some (cmT (2 ^ s) S cm),some (N a),some (N (CT s F X S cm)),some (cmT (2 ^ s) (qF S a false) (qF cm a b)),some (cmT (2 ^ s) (qF S a true) cm),o9],M4):=by
  simp only[bT]at q4 q5 q6;generalize cmT (2 ^ s) S cm=R at *;generalize cmT (2 ^ s) (qF S a false) (qF cm a b)=R2 at *;generalize cmT (2 ^ s) (qF S a true) cm=R3 at *;rw[d_8];simp[q4,q5,q6]
 have x9:px (glT gs) (Pk (glT gs) Fs Cs k) [2] d_9 [some (.fz Z),some (N i),some (.cell M.length),some tc,some (cmT (2 ^ s) S cm),some (N a),some (N (CT s F X S cm)),some (cmT (2 ^ s) (qF S a false) (qF cm a b)),some (cmT (2 ^ s) (qF S a true) cm),o9] M4=.ok (.nx [some (.fz Z),some (N i),some (.cell M.length),some tc,some (cmT (2 ^ s) S cm),some (N a),some (N (CT s F X S cm)),some (cmT (2 ^ s) (qF S a false) (qF cm a b)),some (cmT (2 ^ s) (qF S a true) cm),o9],M4):=by
  have mu:qg M4 .mul (N 2) (N (CT s F X S cm))=some (N (2*CT s F X S cm),true):=Jd (.inl (by decide));have ni:zB M4 .notin (N (CT s F X (qF S a true) cm)) (.lst [N (CT s F X S cm),N (2*CT s F X S cm)])=some (!decide (CT s F X (qF S a true) cm∈[CT s F X S cm,2*CT s F X S cm])):=Qp (IsL.nl M4 [CT s F X S cm,2*CT s F X S cm]) _;generalize cmT (2 ^ s) S cm=R at *;generalize cmT (2 ^ s) (qF S a false) (qF cm a b)=R2 at *;generalize cmT (2 ^ s) (qF S a true) cm=R3 at *;generalize CT s F X (qF S a true) cm=c3 at *;generalize CT s F X S cm=c1 at *;clear sp;rw[d_9];rcases lo with lo|lo
  ·subst lo;cases hd:decide (c3∈[0,2*0])
   ·rw[hd]at ni;simp[h6,mu,ni,lim]
   ·rw[hd]at ni;simp[h6,mu,ni,lim]
  ·rw[uI lo]at ni;simp[h6,mu,ni,lim]
 have x10:∃p9,px (glT gs) (Pk (glT gs) Fs Cs k) [2] qEq [some (.fz Z),some (N i),some (.cell M.length),some tc,some (cmT (2 ^ s) S cm),some (N a),some (N (CT s F X S cm)),some (cmT (2 ^ s) (qF S a false) (qF cm a b)),some (cmT (2 ^ s) (qF S a true) cm),o9] M4=.ok (.nx [some (.fz Z),some (N i),some (.cell M.length),some tc,some (cmT (2 ^ s) S cm),some (N a),some (N (CT s F X S cm)),some (cmT (2 ^ s) (qF S a false) (qF cm a b)),some (cmT (2 ^ s) (qF S a true) cm),p9],M4):=by
  have ix:=K5 (M:=M4) (S:=S) (cm:=cm) ha;cases hS:S a with
  |false=>
   refine⟨o9,?_⟩;rw[A0 hS]at ix;generalize cmT (2 ^ s) S cm=R at *;generalize cmT (2 ^ s) (qF S a false) (qF cm a b)=R2 at *;generalize cmT (2 ^ s) (qF S a true) cm=R3 at *;have isn:zB M4 .is (N (cm a).toNat) (.v .non)=some false:=rfl;rw[qEq];simp[ix,isn]
  |true=>
   refine⟨some (cmT (2 ^ s) (qF S a false) (qF cm a (!b))),?_⟩;rw[qB1 hS]at ix;rw[B6 hS]at sp;have ix7:=K5 (M:=M4) (S:=qF S a false) (cm:=qF cm a b) ha;rw[hold]at ix7;have sb:qg M4 .sub (N 1) (N b.toNat)=some (N (!b).toNat,true):=by
    rw[QT (by cases b<;>decide)];cases b<;>rfl
   have ad:qg M4 .add (N (CT s F X (qF S a false) (qF cm a b))) (N (CT s F X (qF S a false) (qF cm a (!b))))=some (N (CT s F X S cm),true):=by rw[Qs,sp]
   have isn:zB M4 .is (.v .non) (.v .non)=some true:=rfl;have sl:=slE (P:=Pk (glT gs) Fs Cs k) ha (by omega) (oth1 false (!b)) (e:=.bin .sub (nE 1) (.idx (.var 7) (.var 5))) (M:=M4) (M':=M4) (a0:=some (.fz Z)) (a1:=some (N i)) (a2:=some (.cell M.length)) (a3:=some tc) (a6:=some (N (CT s F X S cm))) (a7:=some (cmT (2 ^ s) (qF S a false) (qF cm a b))) (a8:=some (cmT (2 ^ s) (qF S a true) cm)) (a9:=o9) (by
    rw[othr];generalize cmT (2 ^ s) (qF S a false) (qF cm a b)=R2 at *;simp[ix7,sb])
   have xa:px (glT gs) (Pk (glT gs) Fs Cs k) [2] qBk [some (.fz Z),some (N i),some (.cell M.length),some tc,some (cmT (2 ^ s) S cm),some (N a),some (N (CT s F X S cm)),some (cmT (2 ^ s) (qF S a false) (qF cm a b)),some (cmT (2 ^ s) (qF S a true) cm),o9] M4=.ok (.nx [some (.fz Z),some (N i),some (.cell M.length),some tc,some (cmT (2 ^ s) S cm),some (N a),some (N (CT s F X S cm)),some (cmT (2 ^ s) (qF S a false) (qF cm a b)),some (cmT (2 ^ s) (qF S a true) cm),some (cmT (2 ^ s) (qF S a false) (qF cm a (!b)))],M4):=by
    rw[qBk,Zi];unfold qCf;rw[sl];generalize cmT (2 ^ s) S cm=R at *;generalize cmT (2 ^ s) (qF S a false) (qF cm a b)=R2 at *;generalize cmT (2 ^ s) (qF S a true) cm=R3 at *;generalize cmT (2 ^ s) (qF S a false) (qF cm a (!b))=R4 at *;simp
   have xb:px (glT gs) (Pk (glT gs) Fs Cs k) [2] qCU [some (.fz Z),some (N i),some (.cell M.length),some tc,some (cmT (2 ^ s) S cm),some (N a),some (N (CT s F X S cm)),some (cmT (2 ^ s) (qF S a false) (qF cm a b)),some (cmT (2 ^ s) (qF S a true) cm),some (cmT (2 ^ s) (qF S a false) (qF cm a (!b)))] M4=.ok (.nx [some (.fz Z),some (N i),some (.cell M.length),some tc,some (cmT (2 ^ s) S cm),some (N a),some (N (CT s F X S cm)),some (cmT (2 ^ s) (qF S a false) (qF cm a b)),some (cmT (2 ^ s) (qF S a true) cm),some (cmT (2 ^ s) (qF S a false) (qF cm a (!b)))],M4):=by
    clear sl xa;generalize cmT (2 ^ s) S cm=R at *;generalize cmT (2 ^ s) (qF S a false) (qF cm a b)=R2 at *;generalize cmT (2 ^ s) (qF S a true) cm=R3 at *;generalize cmT (2 ^ s) (qF S a false) (qF cm a (!b))=R4 at *;generalize CT s F X (qF S a false) (qF cm a b)=y1 at *;generalize CT s F X (qF S a false) (qF cm a (!b))=y2 at *;generalize CT s F X S cm=y3 at *;rw[qCU];simp[h5,h7,ad,-Qs]
   rw[qEq];clear sl;generalize cmT (2 ^ s) S cm=R at *;generalize cmT (2 ^ s) (qF S a false) (qF cm a b)=R2 at *;generalize cmT (2 ^ s) (qF S a true) cm=R3 at *;generalize cmT (2 ^ s) (qF S a false) (qF cm a (!b))=R4 at *;simp[ix,isn,xa,xb]
 obtain⟨p9,x10⟩:=x10;rw[qH0,zD x0,zD x1,zD x2,zD x3,zD x4,zD x5,zD x6,zD x7,zD x8,zD x9,zD x10];exact⟨_,_,_,_,_,_,_,_,M4,rfl,w4⟩
theorem qGw(hk:20<=k)(ns:List Int):∀(m i:Nat) (M:Mem) (o1 o2 o3 o4 o5 o6 o7 o8 o9:Option T),i+m<=63->WfM M->∃σ' M',zJ [] (.name 1) (pxs (glT gs) (Pk (glT gs) Fs Cs k) [2] q8) ((List.range' i m).map N) [some (.fz (ns.map λn=>.v (.int n))),o1,o2,o3,o4,o5,o6,o7,o8,o9] M=.ok (.nx σ',M')
 | 0,i,M,o1,o2,o3,o4,o5,o6,o7,o8,o9,h,_=>⟨_,M,rfl⟩
 |m+1,i,M,o1,o2,o3,o4,o5,o6,o7,o8,o9,h,hF=>by
  obtain⟨p2,p3,p4,p5,p6,p7,p8,p9,M1,e,F1⟩:=l6 hk ns (i:=i) (by omega) hF (o2:=o2) (o3:=o3) (o4:=o4) (o5:=o5) (o6:=o6) (o7:=o7) (o8:=o8) (o9:=o9);obtain⟨σ',M',e'⟩:=qGw hk ns m (i+1) M1 (some (N i)) p2 p3 p4 p5 p6 p7 p8 p9 (by omega) F1;refine⟨σ',M',?_⟩;rw[vG,List.map_cons,jO,show ∀a b c d e f g h u v z:Option T,[a,b,c,d,e,f,g,h,u,v].set 1 z=[a,z,c,d,e,f,g,h,u,v] from λ_ _ _ _ _ _ _ _ _ _ _=>rfl,e,tD];exact e'
end
theorem main:∀ns:List Int,ns.length<=63->∃h',Fk Tb.fns 30 39 [.ref gs.length] (JX gs ns)=.ok (.bl true,h'):=by
 intro ns hn;obtain⟨σ',M',e⟩:=qGw (k:=29) (by omega) ns (max 1 (min ns.length 12)) 0 [] none none none none none none none none none (by omega) rfl;rw[<-vH]at e;have key:∃b M2,Pk (glT gs) Fs Cs 30 39 [.fz (ns.map λn=>.v (.int n))] []=.ok ((.v (.bl true),b),M2):=by
  rw[qN t39 ⟨rfl,by decide⟩ (by omega),show Cs.getD 39 []=[2] from rfl];clear hn;have ex:pxs (glT gs) (Pk (glT gs) Fs Cs (30-1)) [2] b39 ([T.fz (ns.map λn=>.v (.int n))].map some++List.replicate (10-1) none) []=.ok (.rt (bT true),M'):=by
   rw[b39];simp(disch:=omega) [zb,e]
  rw[ex];exact d7 _ _ _
 obtain⟨b,M2,e2⟩:=key;rw[qHV];exact qC4 (qFC qDM) rfl e2
end _M
namespace PySem.W.Fast
theorem tw17091897669066635378:True:=trivial
theorem tw17954219475076428277:True:=trivial
theorem tw13187325181739509904:True:=trivial
theorem tw159951282902989355:True:=trivial
theorem tw15590455137295419785:True:=trivial
theorem tw17617635158195638680:True:=trivial
theorem tw6415997340906741893:True:=trivial
theorem tw11731083297202411461:True:=trivial
theorem tw15377392201331392534:True:=trivial
theorem tw12409433011936915711:True:=trivial
theorem tw13182524351302135869:True:=trivial
theorem tw928050240037621419:True:=trivial
theorem tw3316480487591004103:True:=trivial
theorem tw4454783359773053996:True:=trivial
theorem tw3895807975063872454:True:=trivial
theorem tw17509655717841359825:True:=trivial
theorem tw5777798449568742752:True:=trivial
theorem tw17529568362305310496:True:=trivial
theorem tw16879019853071944064:True:=trivial
theorem tw6435168531669939277:True:=trivial
theorem tw10603641322165500165:True:=trivial
theorem tw13605851524355577953:True:=trivial
theorem tw17474928820553698009:True:=trivial
theorem tw2384046737683053137:True:=trivial
theorem tw1206373782432064979:True:=trivial
theorem tw17052987003102177792:True:=trivial
theorem tw14250523911872513916:True:=trivial
theorem tw16882480536148082343:True:=trivial
theorem tw4887892965114892597:True:=trivial
theorem tw12547359853978759555:True:=trivial
theorem tw17558252845757786574:True:=trivial
theorem tw5376800736340111200:True:=trivial
theorem tw39734238844714847:True:=trivial
theorem tw558406382583109116:True:=trivial
theorem tw10101770045895725428:True:=trivial
theorem tw1626338485891312590:True:=trivial
theorem tw15076703646554401440:True:=trivial
theorem tw3832762489250501387:True:=trivial
theorem tw5167720125362667736:True:=trivial
theorem tw14302055115861696473:True:=trivial
theorem tw11019367466486208237:True:=trivial
theorem tw9110934208466812334:True:=trivial
theorem tw14813835547839421047:True:=trivial
theorem tw15973746189965950501:True:=trivial
theorem tw7177745215469852280:True:=trivial
theorem tw8507316489769255078:True:=trivial
theorem tw17087052296045636082:True:=trivial
theorem tw16431344410962444810:True:=trivial
theorem tw2469996311341798111:True:=trivial
theorem tw6829547953794868627:True:=trivial
theorem tw12242052025433439452:True:=trivial
theorem tw12529952266008394606:True:=trivial
theorem tw2653178134804349702:True:=trivial
theorem tw15979929715805119669:True:=trivial
theorem tw6795948816823430604:True:=trivial
theorem tw8146580823303062567:True:=trivial
theorem tw5172962421832256172:True:=trivial
theorem tw6112873340780230671:True:=trivial
theorem tw3120354137442467605:True:=trivial
theorem tw4794672826299475126:True:=trivial
theorem tw16656744781296539442:True:=trivial
theorem tw9322347219149793015:True:=trivial
theorem tw11557055067392786983:True:=trivial
theorem tw16186179907645548317:True:=trivial
theorem tw7180188130460515639:True:=trivial
theorem tw313626043425464216:True:=trivial
theorem tw9906775651988139513:True:=trivial
theorem tw3510335821079279135:True:=trivial
theorem tw15168765000936507635:True:=trivial
theorem tw16304644537147418554:True:=trivial
theorem tw186187888183741463:True:=trivial
theorem tw7815155345927593358:True:=trivial
theorem tw3365708882431227138:True:=trivial
theorem tw14445328013734083825:True:=trivial
theorem tw3867243166847544291:True:=trivial
theorem tw7024042090351137195:True:=trivial
theorem tw9518063464417237242:True:=trivial
theorem tw10548964365718047355:True:=trivial
theorem tw11286479960669691956:True:=trivial
theorem tw10054184955947891999:True:=trivial
theorem tw16221131258068670213:True:=trivial
theorem tw12883459354485444964:True:=trivial
theorem tw8256103481430190721:True:=trivial
theorem tw1220733888452914656:True:=trivial
theorem tw17520618872959695721:True:=trivial
theorem tw6210827278327724363:True:=trivial
theorem tw12934076731474642815:True:=trivial
theorem tw10064490559687828803:True:=trivial
theorem tw4698816901073101919:True:=trivial
theorem tw922881495357262408:True:=trivial
theorem tw14968585424790274959:True:=trivial
theorem tw6411950442378739100:True:=trivial
theorem tw578160799053459464:True:=trivial
theorem tw8470410376494624127:True:=trivial
theorem tw3101431513734911638:True:=trivial
theorem tw1597449288082674586:True:=trivial
theorem tw17778190411357203722:True:=trivial
theorem tw12388038557016710426:True:=trivial
theorem tw15178529534151817909:True:=trivial
theorem tw5125968529043400196:True:=trivial
theorem tw15726526572956544538:True:=trivial
theorem tw16547687989931067245:True:=trivial
theorem tw17548303544150956718:True:=trivial
theorem tw1764974535526392328:True:=trivial
theorem tw10790880014818289197:True:=trivial
theorem tw2189667460563124825:True:=trivial
theorem tw8697119581689159397:True:=trivial
theorem tw10388315629230568151:True:=trivial
theorem tw14372585079632845232:True:=trivial
theorem tw7424868907093360920:True:=trivial
theorem tw2959212292537898102:True:=trivial
theorem tw10875665505028661595:True:=trivial
theorem tw18303133878190931228:True:=trivial
theorem tw16387810211485646039:True:=trivial
theorem tw16721948122736787623:True:=trivial
theorem tw16908238178614798787:True:=trivial
theorem tw1827152214323056548:True:=trivial
theorem tw11497877470973470358:True:=trivial
theorem tw941062368731722163:True:=trivial
theorem tw17133355491609113182:True:=trivial
theorem tw6720562979997140705:True:=trivial
theorem tw11565190834784638274:True:=trivial
theorem tw16977411892825297744:True:=trivial
theorem tw13742438966059507024:True:=trivial
theorem tw13808953968652055484:True:=trivial
theorem tw2646849835977718854:True:=trivial
theorem tw13994952501875103648:True:=trivial
theorem tw8916011136801958280:True:=trivial
theorem tw1754552137906987635:True:=trivial
theorem tw6343012014512327981:True:=trivial
theorem tw6682821428624494096:True:=trivial
theorem tw3389492435138126033:True:=trivial
theorem tw8593910378873195973:True:=trivial
theorem tw5977941338235994646:True:=trivial
theorem tw1403474150457708026:True:=trivial
theorem tw15708743780039834351:True:=trivial
theorem tw12156631892981560499:True:=trivial
theorem tw16436799828222513775:True:=trivial
theorem tw11457933500649922745:True:=trivial
theorem tw3493566887609028784:True:=trivial
theorem tw15710987612733099478:True:=trivial
theorem tw11273371429846281893:True:=trivial
theorem tw13666339659544839192:True:=trivial
theorem tw16937241390371823904:True:=trivial
theorem tw16264559134476194790:True:=trivial
theorem tw8212968879477357746:True:=trivial
theorem tw14532013149363655525:True:=trivial
theorem tw17276188268233137411:True:=trivial
theorem tw13673302519719314661:True:=trivial
theorem tw15141842538656392581:True:=trivial
theorem tw9239842584942311375:True:=trivial
theorem tw9360216618609672151:True:=trivial
theorem tw11293265475599192054:True:=trivial
theorem tw948166064424879851:True:=trivial
theorem tw8676353314827066276:True:=trivial
theorem tw1821130115313005076:True:=trivial
theorem tw13806491726465355729:True:=trivial
theorem tw10550857033275438156:True:=trivial
theorem tw12240209659965469534:True:=trivial
theorem tw167885502463661855:True:=trivial
theorem tw5083407021870169773:True:=trivial
theorem tw7914457289709101670:True:=trivial
theorem tw12912337153382371602:True:=trivial
theorem tw704189977497415144:True:=trivial
theorem tw13481193338265554332:True:=trivial
theorem tw368755540262405210:True:=trivial
theorem tw8106153979287359568:True:=trivial
theorem tw1163795802042547239:True:=trivial
theorem tw10695842619494337280:True:=trivial
theorem tw10731968166523099596:True:=trivial
theorem tw7678798615221482356:True:=trivial
theorem tw13826226063678323238:True:=trivial
theorem tw7472957367959129459:True:=trivial
theorem tw5101671033864903809:True:=trivial
theorem tw4400540990552116782:True:=trivial
theorem tw9041145098410236433:True:=trivial
theorem tw7081107974252196495:True:=trivial
theorem tw17258045152189342666:True:=trivial
theorem tw10136264832968342599:True:=trivial
theorem tw4665640065927051732:True:=trivial
theorem tw1232557262958378158:True:=trivial
theorem tw11057128796279853838:True:=trivial
theorem tw8827534406083226143:True:=trivial
theorem tw9419376798109079315:True:=trivial
theorem tw1635134746873348566:True:=trivial
theorem tw6558647546686938204:True:=trivial
theorem tw16318777138939473225:True:=trivial
theorem tw4891528144077527447:True:=trivial
theorem tw14287950075866436174:True:=trivial
theorem tw5654733411920343875:True:=trivial
theorem tw14448405618741355380:True:=trivial
theorem tw15248468477486607599:True:=trivial
theorem tw2374117094228961551:True:=trivial
theorem tw6841486069447001097:True:=trivial
theorem tw13087971235338920789:True:=trivial
theorem tw17477532398088358531:True:=trivial
theorem tw15032758011297801596:True:=trivial
theorem tw2562876162268674765:True:=trivial
theorem tw16383561914275788305:True:=trivial
theorem tw3501745222817886163:True:=trivial
theorem tw11952893308909614270:True:=trivial
theorem tw10095032381705277630:True:=trivial
theorem tw725531851016550083:True:=trivial
theorem tw8817415204630522138:True:=trivial
theorem tw15035396917132704100:True:=trivial
theorem tw8904347354187844751:True:=trivial
theorem tw13019758201025140892:True:=trivial
theorem tw6763035940274827738:True:=trivial
theorem tw16800228084534130080:True:=trivial
theorem tw7045477258841569487:True:=trivial
theorem tw4365557855936840122:True:=trivial
theorem tw15195426133005383217:True:=trivial
theorem tw10411498557275669127:True:=trivial
theorem tw16073573314032307652:True:=trivial
theorem tw5088473926145958908:True:=trivial
theorem tw7173120191592291267:True:=trivial
theorem tw15129218627722259705:True:=trivial
theorem tw5003345429889244027:True:=trivial
theorem tw12891653231086034851:True:=trivial
theorem tw717186988805142572:True:=trivial
theorem tw4274469764614728848:True:=trivial
theorem tw273817240840211613:True:=trivial
theorem tw17862140880839051694:True:=trivial
theorem tw6315142519598107143:True:=trivial
theorem tw4471326152525460901:True:=trivial
theorem tw8652290676335163860:True:=trivial
theorem tw15225379285464813437:True:=trivial
theorem tw15722885409611772686:True:=trivial
theorem tw2044101718762277404:True:=trivial
theorem tw14100601721788496517:True:=trivial
theorem tw6618312374917575763:True:=trivial
theorem tw11541176481221096739:True:=trivial
theorem tw13920966822262547801:True:=trivial
theorem tw10995756383455869486:True:=trivial
theorem tw13685676958386030305:True:=trivial
theorem tw17532489073540691900:True:=trivial
theorem tw13241970211177864288:True:=trivial
theorem tw17339860299783269776:True:=trivial
theorem tw9440420073903703081:True:=trivial
theorem tw9170830154846498763:True:=trivial
theorem tw15805527341868559328:True:=trivial
theorem tw13542236039570500786:True:=trivial
theorem tw12284005390670637578:True:=trivial
theorem tw221753385285715360:True:=trivial
theorem tw9958943816928173607:True:=trivial
theorem tw8924635643428028813:True:=trivial
theorem tw12090362814161084839:True:=trivial
theorem tw11013483235095328992:True:=trivial
theorem tw10427175694111243745:True:=trivial
theorem tw5622699532797814912:True:=trivial
theorem tw10739887148275131211:True:=trivial
theorem tw8131723421718026805:True:=trivial
theorem tw13954163510437806697:True:=trivial
theorem tw6753078501736393029:True:=trivial
theorem tw6961034974821994522:True:=trivial
theorem tw16326920919113667283:True:=trivial
theorem tw14182198396326442086:True:=trivial
theorem tw15376633500612427997:True:=trivial
theorem tw13008208199840492053:True:=trivial
theorem tw1033863159892942320:True:=trivial
theorem tw15847617635028023515:True:=trivial
theorem tw5900558612420437454:True:=trivial
theorem tw7118404319013282679:True:=trivial
theorem tw12430350519196470494:True:=trivial
theorem tw9570350528952585619:True:=trivial
theorem tw1505461914221574906:True:=trivial
theorem tw1282026796638060442:True:=trivial
theorem tw11291582353829743386:True:=trivial
theorem tw2298329024112164504:True:=trivial
theorem tw9676828620405051817:True:=trivial
theorem tw15702194123302047439:True:=trivial
theorem tw3289711608118349481:True:=trivial
theorem tw8500561646742107662:True:=trivial
theorem tw1819896164090699982:True:=trivial
theorem tw3255205666872446725:True:=trivial
theorem tw49294415637948916:True:=trivial
end PySem.W.Fast
namespace _M
open PySem PySem.Spec PyProof.Rows _L _P
theorem dk1{d:N7}(h:d.ps.length=1)(sc:zY d.N d.ps (defScope d.st))(b:∀(kV doc pm:Value) (an:Option Addr) (cdv ct:Value),∀u0:Value,bindArgs (PySem.W.fnOf d.x d.x (ze d.st) (defBody d.st) (defScope d.st) .none kV doc pm an cdv ct) ⟨[u0],[]⟩=pure (d.ps.zip [u0])):qCg d:=⟨sc,λ_ _ _ _ _ _ us hl=>by
 rw[h]at hl;obtain⟨_,rfl⟩:=_P.len1 hl;exact b _ _ _ _ _ _ _⟩
theorem dk2{d:N7}(h:d.ps.length=2)(sc:zY d.N d.ps (defScope d.st))(b:∀(kV doc pm:Value) (an:Option Addr) (cdv ct:Value),∀u0 u1:Value,bindArgs (PySem.W.fnOf d.x d.x (ze d.st) (defBody d.st) (defScope d.st) .none kV doc pm an cdv ct) ⟨[u0,u1],[]⟩=pure (d.ps.zip [u0,u1])):qCg d:=⟨sc,λ_ _ _ _ _ _ us hl=>by
 rw[h]at hl;obtain⟨_,_,rfl⟩:=_P.len2 hl;exact b _ _ _ _ _ _ _ _⟩
theorem dk3{d:N7}(h:d.ps.length=3)(sc:zY d.N d.ps (defScope d.st))(b:∀(kV doc pm:Value) (an:Option Addr) (cdv ct:Value),∀u0 u1 u2:Value,bindArgs (PySem.W.fnOf d.x d.x (ze d.st) (defBody d.st) (defScope d.st) .none kV doc pm an cdv ct) ⟨[u0,u1,u2],[]⟩=pure (d.ps.zip [u0,u1,u2])):qCg d:=⟨sc,λ_ _ _ _ _ _ us hl=>by
 rw[h]at hl;obtain⟨_,_,_,rfl⟩:=_P.len3 hl;exact b _ _ _ _ _ _ _ _ _⟩
theorem dks:∀d∈Tb.ds,qCg d:=by
 unfold Tb;dsimp only
 repeat' (refine wv.2 ⟨?_,?_⟩;first|exact dk1 rfl ⟨rfl,rfl,rfl,by decide +kernel,rfl,by decide +kernel,by decide +kernel⟩ λ_ _ _ _ _ _ _=>rfl|exact dk2 rfl ⟨rfl,rfl,rfl,by decide +kernel,rfl,by decide +kernel,by decide +kernel⟩ λ_ _ _ _ _ _ _ _=>rfl|exact dk3 rfl ⟨rfl,rfl,rfl,by decide +kernel,rfl,by decide +kernel,by decide +kernel⟩ λ_ _ _ _ _ _ _ _ _=>rfl)
 exact λ_ h=>nomatch h
theorem all_mk{l:PySem.W.OpenLaw}{w:World}{K:PySem.W.Frag}{h:Heap}{mg:Str->Option Value}{fa:Addr}(X:K.In h)(G:h.Ns mainGlobals mg)(hfa:mg "law"=some (.ref fa))
  (hds:∀d∈Tb.ds,qDe K d)
  {ga0:Addr}{gn0:Nat}{gsl0:Array (Option Value)}{u0_0 u0_1 u0_2 u0_3 u0_4 u0_5:Tok}(g_LENGTHS:PySem.W.nsIn K mainGlobals "LENGTHS"=some (some (.ref ga0))) (m0:K.lookup ga0=some ⟨.type "tuple",none,.seq #[.int 1 u0_0,.int 2 u0_1,.int 4 u0_2,.int 8 u0_3,.int 16 u0_4,.int 32 u0_5] gn0,gsl0⟩)
  {tg_GREATEST_SIZE:Tok}(g_GREATEST_SIZE:PySem.W.nsIn K mainGlobals "GREATEST_SIZE"=some (some (.int 5 tg_GREATEST_SIZE)))
  (z_len:PySem.W.nsIn K mainGlobals "len"=some none)
  (z_sum:PySem.W.nsIn K mainGlobals "sum"=some none)
  (z_all:PySem.W.nsIn K mainGlobals "all"=some none)
  (z_max:PySem.W.nsIn K mainGlobals "max"=some none)
  (z_min:PySem.W.nsIn K mainGlobals "min"=some none)
  (z_list:PySem.W.nsIn K mainGlobals "list"=some none)
  (z_int:PySem.W.nsIn K mainGlobals "int"=some none)
  (z_tuple:PySem.W.nsIn K mainGlobals "tuple"=some none)
  (z_range:PySem.W.nsIn K mainGlobals "range"=some none)
  (z_zip:PySem.W.nsIn K mainGlobals "zip"=some none)
  (z_isinstance:PySem.W.nsIn K mainGlobals "isinstance"=some none)
  (z_bool:PySem.W.nsIn K mainGlobals "bool"=some none)
  (z_dict:PySem.W.nsIn K mainGlobals "dict"=some none)
  (z_enumerate:PySem.W.nsIn K mainGlobals "enumerate"=some none)
  (z_ValueError:PySem.W.nsIn K mainGlobals "ValueError"=some none)
  (main:∀ns:List Int,ns.length<=63->∃h',Fk Tb.fns 30 39 [.ref gs.length] (JX gs ns)=.ok (.bl true,h')):
  ∃fd:FuncData,(∀(s:Shared) (v:Value),BindsTo s fd ⟨[v],[]⟩ [("_law_script",v)])/\∀base:Heap,K.In base->base.Ns mainGlobals mg->FnOk l.prog w K mg base CX0 60 fa fd ["_law_script"] (z9 K):=by
 obtain⟨fas,fds,hT⟩:=qAR X G Tb.ds hds dks;have O:qAK K mg [ga0] Tb fas fds:=by
  refine⟨hT,λx e hx=>?_,λx hx=>?_,λa ha=>(wJ.mp ha).elim (λz=>by subst z;exact⟨_,m0,rfl,rfl⟩) λha=>nomatch ha⟩
  ·have hx2:List.lookup x ([("LENGTHS",E.glob 0),("GREATEST_SIZE",E.cst (.int 5))]:List (Str×E))=some e:=hx;simp only[List.lookup_cons,List.lookup_nil]at hx2;split at hx2
   ·rename_i hq;have hq2:x="LENGTHS":=by simpa using hq
    subst hq2;cases hx2;exact .inr ⟨_,_,rfl,PySem.W.mg_of X G g_LENGTHS,rfl⟩
   split at hx2
   ·rename_i hq;have hq2:x="GREATEST_SIZE":=by simpa using hq
    subst hq2;cases hx2;exact .inl ⟨_,_,rfl,PySem.W.mg_of X G g_GREATEST_SIZE,⟨_,rfl⟩,λ_=>rfl⟩
   cases hx2
  ·have hx2:x∈(["len","sum","all","max","min","list","int","tuple","range","zip","isinstance","bool","dict","enumerate","ValueError"]:List Str):=List.contains_iff_mem.mp hx;simp only[wJ,wR,or_false]at hx2;rcases hx2 with rfl|rfl|rfl|rfl|rfl|rfl|rfl|rfl|rfl|rfl|rfl|rfl|rfl|rfl|rfl
   ·exact PySem.W.mg_none_of X G z_len
   ·exact PySem.W.mg_none_of X G z_sum
   ·exact PySem.W.mg_none_of X G z_all
   ·exact PySem.W.mg_none_of X G z_max
   ·exact PySem.W.mg_none_of X G z_min
   ·exact PySem.W.mg_none_of X G z_list
   ·exact PySem.W.mg_none_of X G z_int
   ·exact PySem.W.mg_none_of X G z_tuple
   ·exact PySem.W.mg_none_of X G z_range
   ·exact PySem.W.mg_none_of X G z_zip
   ·exact PySem.W.mg_none_of X G z_isinstance
   ·exact PySem.W.mg_none_of X G z_bool
   ·exact PySem.W.mg_none_of X G z_dict
   ·exact PySem.W.mg_none_of X G z_enumerate
   ·exact PySem.W.mg_none_of X G z_ValueError
 have hG:E6 K [ga0] gs:=⟨⟨.inr ⟨_,_,_,m0,rfl,rfl,by show 6<=sizeLine;decide,.cons ⟨_,rfl⟩ (.cons ⟨_,rfl⟩ (.cons ⟨_,rfl⟩ (.cons ⟨_,rfl⟩ (.cons ⟨_,rfl⟩ (.cons ⟨_,rfl⟩ (.nil))))))⟩,rfl⟩,True.intro⟩
 obtain⟨a,f,e1,e2,F,_,em,_⟩:=hT 39 _ rfl;have e:=hfa.symm.trans em;cases e;exact⟨f,qFg F (dks _ (wT (i:=39) rfl)) rfl,λbase _ _=>S4 O hG (i:=39) rfl e1 e2 rfl main⟩
theorem walk{l:PySem.W.OpenLaw}{q:Program}{loose:List Str}{XP:(Str->Option Value)->Heap->Prop}{YP:World->Heap->Prop}{d:DefRec}{K:Params->PySem.W.Frag}(hn:l.most=some 63)(hdf:d.params.defaults=[])
  (hY:∀(w:World) (h:Heap),YP w h->(K w.params).In h)
  (F:∀(w:World) (mg:Str->Option Value) (fa:Addr) (h:Heap),(K w.params).In h->h.Ns mainGlobals mg->mg d.name=some (.ref fa) ->
   ∃fd:FuncData,(∀(s:Shared) (u:Value),BindsTo s fd ⟨[u],[]⟩ [("_law_script",u)])/\∀base:Heap,(K w.params).In base->base.Ns mainGlobals mg->FnOk l.prog w (K w.params) mg base CX0 60 fa fd ["_law_script"] (z9 (K w.params))):
  PySem.W.WalkO q loose XP YP l.row.toRowW d [] (λf vs=>PySem.call f vs):=
 _L.walk_of (n:=63) (k:=60) (x:="_law_script") (CX:=λ_=>CX0) (sp:=λw=>z9 (K w.params)) hn (by decide) hdf ⟨rfl,by decide,by decide,rfl⟩ hY F (λ_ _ a ns hl hO hS=>⟨a,ns,rfl,hO,hS,hl,λ_=>rfl⟩) λ_ _ _ _ _ z=>z
end _M
open PySem PySem.W PyProof.Rows
set_option maxRecDepth 100000 in
set_option maxHeartbeats 0 in
theorem PySem.Challenge.cw_healhalves_k54_how_many_fit_holds : PySem.Challenge.rw_healhalves_k54_how_many_fit.Holds := by
 w_on;o_law;k_head;(case hw=>w_witness2)
 k_fill
 refine _M.walk (l:=PySem.Challenge.rw_healhalves_k54_how_many_fit) rfl rfl (λw h Y=>PySem.W.kIn_of Y) ?F
 case F=>
  intro w mg fa h KX G hmg
  refine' _M.all_mk KX G hmg ?ds ?g_LENGTHS ?m0 ?g_GREATEST_SIZE ?z_len ?z_sum ?z_all ?z_max ?z_min ?z_list ?z_int ?z_tuple ?z_range ?z_zip ?z_isinstance ?z_bool ?z_dict ?z_enumerate ?z_ValueError _M.main
  case ds=>
   unfold _M.Tb;dsimp only
   repeat' (refine wv.2 ⟨⟨_,_,_,_,_,_,_,_,_,_,by k_is,by k_is,by k_is,by k_is⟩,?_⟩)
   exact λ_ h=>nomatch h
  all_goals (try k_is)
