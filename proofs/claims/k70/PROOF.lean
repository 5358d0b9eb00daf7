import PyProof.Rows.All
import Wide.All
import OpenK.AllK
import Wide.FinOn
import Lean
import PyProof.EqAt
import PyProof.EqKinds
import PyProof.TupleCall
import PyProof.NeKinds
import PyProof.ZipIter
import PyProof.ReprRoads
import Wide.Words
import PyProof.Rows.MinMaxN
import KE.KIntText
import PyProof.StrWalks
import PyProof.StrLawsJoin
import KE.KSortKey
import KE.KDictOf
import KE.KItemsList
import PyProof.AttrMissHeap
import PyProof.Rows.SetFrom
import PyProof.DictIter
import PyProof.Rows.SortShell
import KE.KDictSum
import KE.KRevIter
import PyProof.EnumMake
import PyProof.EnumFor
import PyProof.WalksEnum
import PyProof.Rows.EnumRows
import PyProof.FactsAll.range_2
import PyProof.AutoRange
import PyProof.StrLawsRepr
import PySem.Challenge.RW_healhalves_k70_what_is_a_plan
set_option linter.all false
def wA:=@Option.map_eq_some_iff
def wB:=@Bool.and_eq_true
def wC:=@List.getElem?_eq_some_iff
def wD:=@List.getElem?_append_left
def wE:=@List.getElem?_eq_getElem
def wF:=@Nat.le_refl
def wG:=@List.length_map
def wH:=@Option.bind_eq_some_iff
def wI:=@List.mem_cons
def wJ:=@List.mem_append
def wK:=@Nat.lt_of_lt_of_le
def wL:=@List.size_toArray
def wM:=@Nat.le_trans
def wN:=@List.mem_cons_of_mem
def wO:=@List.mem_append_left
def wP:=@List.mem_cons_self
def wQ:=@List.mem_append_right
def wR:=@Nat.ne_of_lt
def wS:=@List.getElem?_append_right
def wT:=@List.not_mem_nil
def wU:=@List.mem_singleton
def wV:=@List.append_nil
def wW:=@List.mem_of_getElem?
def wX:=@List.length_append
def wY:=@List.forall_mem_cons
def wZ:=@Array.length_toList
def wa:=@List.getElem?_set_ne
def wb:=@List.all_eq_true
def we:=@List.getElem?_map
def wf:=@Nat.lt_irrefl
def wg:=@List.getD_eq_getElem?_getD
def wj:=@List.getElem?_set_self
def wk:=@Int.toNat_natCast
def wl:=@List.length_eq_zero_iff
def wm:=@Bool.false_ne_true
def wn:=@List.getElem_mem
def wo:=@Nat.le_of_lt
def wq:=@Nat.lt_trans
def wt:=@List.nodup_append
def wu:=@Nat.zero_le
def wv:=@Bool.or_eq_true
def wx:=@Bool.eq_iff_iff
def wy:=@List.mem_map
def wz:=@Nat.lt_succ_self
def vB:=@Bool.false_eq_true
def vC:=@List.lookup_append
def vD:=@List.pairwise_cons
def vE:=@List.reverse_cons
def vF:=@List.mem_iff_getElem
def vG:=@List.mem_of_mem_drop
def vH:=@List.getElem?_take_of_lt
def vI:=@List.length_drop
def vJ:=@List.filter_cons_of_pos
def vL:=@List.eq_nil_of_length_eq_zero
def vM:=@List.map_map
def vN:=@List.mem_range
def vO:=@List.nodup_nil
def vP:=@Nat.pow_le_pow_right
def vQ:=@List.length_take
def vR:=@Nat.le_add_right
def vS:=@List.filterMap_cons
def vU:=@List.getElem?_range
def vV:=@List.nodup_cons
def vW:=@List.filter_cons_of_neg
def vX:=@Nat.ne_of_gt
def vY:=@List.take_of_length_le
def vZ:=@Nat.lt_succ_of_lt
def va:=@List.ext_getElem
def vb:=@Nat.mod_lt
def vc:=@List.any_eq_true
def vd:=@Nat.le_succ
def ve:=@List.mem_of_mem_take
open PySem PySem.Spec in def vf:=@wpAny_bind
open PySem PySem.Spec in def vg:=@wpAny_pure
def vh:=@decide_eq_false
def vi:=@decide_eq_true
def vj:=@decide_eq_true_eq
def vm:=@of_decide_eq_true
open PySem PySem.Spec in def vo:=@wpAny_truthy_bool
def vp:=@beq_self_eq_true
set_option bootstrap.genMatcherCode false
set_option compiler.extract_closed false
set_option genSizeOf false
set_option genSizeOfSpec false
set_option Elab.async false
set_option maxRecDepth 100000
namespace _L
open PySem PySem.Spec PyProof.Rows
noncomputable abbrev Key:=Sum Int Str
noncomputable def L1:Key->Value->Bool
 | .inl k,v=>Value.isInt k v
 | .inr x,v=>Value.isStrOf x v
noncomputable def qGC(w:World):Key->Int
 | .inl k=>hashInt k
 | .inr x=>hashStr w x
theorem qa:∀{k:Key}{v:Value},L1 k v=true->(∃i t,k=Sum.inl i/\v=Value.int i t)\/(∃x t,k=Sum.inr x/\v=Value.str x t)
 | .inl i,v,h=>by
  obtain⟨t,e⟩:=Value.isInt_shape (k:=i) (v:=v) h;exact .inl ⟨i,t,rfl,e⟩
 | .inr x,v,h=>by
  obtain⟨t,e⟩:=Value.isStrOf_shape (x:=x) (v:=v) h;exact .inr ⟨x,t,rfl,e⟩
theorem X0(i:Int)(t:Tok):L1 (.inl i) (.int i t)=true:=by simp[L1,Value.isInt]
theorem Q9(x:Str)(t:Tok):L1 (.inr x) (.str x t)=true:=by simp[L1,Value.isStrOf]
theorem qCw(a b:Int):decide ((Sum.inl a:Key)=Sum.inl b)=(a==b):=by
 by_cases e:a=b
 ·subst e;simp
 ·have h:¬ (Sum.inl a:Key)=Sum.inl b:=λq=>e (Sum.inl.inj q);rw[vh h];exact(beq_eq_false_iff_ne.mpr e).symm
theorem qCp(a b:Str):decide ((Sum.inr a:Key)=Sum.inr b)=decide (a=b):=by
 by_cases e:a=b
 ·subst e;simp
 ·have h:¬ (Sum.inr a:Key)=Sum.inr b:=λq=>e (Sum.inr.inj q);rw[vh h,vh e]
theorem qCs(a:Int)(b:Str):decide ((Sum.inl a:Key)=Sum.inr b)=false:=vh (λq=>nomatch q)
theorem qBm(a:Str)(b:Int):decide ((Sum.inr a:Key)=Sum.inl b)=false:=vh (λq=>nomatch q)
noncomputable def qq(prog:Program)(w:World):PySem.KeyKind prog w Key where
 is:=L1
 hash:=qGC w
 inj:=λv a b ha hb=>by
  rcases qa ha with⟨i,t,rfl,rfl⟩|⟨x,t,rfl,rfl⟩
  ·rcases qa hb with⟨j,u,rfl,e⟩|⟨y,u,rfl,e⟩
   ·injection e with e1 _;rw[e1]
   ·exact nomatch e
  ·rcases qa hb with⟨j,u,rfl,e⟩|⟨y,u,rfl,e⟩
   ·exact nomatch e
   ·injection e with e1 _;rw[e1]
 byValue:=λk v h=>by
  rcases qa h with⟨i,t,rfl,rfl⟩|⟨x,t,rfl,rfl⟩<;>rfl
 pyHash:=λhv h=>by
  rcases qa hv with⟨i,t,rfl,rfl⟩|⟨x,t,rfl,rfl⟩
  ·exact wpAny_pyHash_int h
  ·exact wpAny_pyHash_str h
 eqBool:=λhu hv h=>by
  rcases qa hu with⟨i,t,rfl,rfl⟩|⟨x,t,rfl,rfl⟩
  ·rcases qa hv with⟨j,u,rfl,rfl⟩|⟨y,u,rfl,rfl⟩
   ·rw[qCw]at h;exact wpAny_eqBool_int h
   ·rw[qCs]at h;exact SeqAt.EqAt.int_str i t y u _ _ _ _ h
  ·rcases qa hv with⟨j,u,rfl,rfl⟩|⟨y,u,rfl,rfl⟩
   ·rw[qBm]at h;exact SeqAt.EqAt.str_int x t j u _ _ _ _ h
   ·rw[qCp]at h;exact wpAny_eqBool_str h
 «strs»:=λk x t v h=>by
  rcases qa h with⟨i,u,rfl,e⟩|⟨y,u,rfl,e⟩
  ·exact nomatch e
  ·injection e with e1 _;subst e1;cases v<;>rfl
theorem C0(prog:Program)(w:World)(i:Int)(t:Tok):(qq prog w).is (.inl i) (.int i t)=true:=X0 i t
theorem Jl(prog:Program)(w:World)(x:Str)(t:Tok):(qq prog w).is (.inr x) (.str x t)=true:=Q9 x t
inductive V where
 |non|bl (b:Bool)|int (i:Int)|str (x:Str)|byt (b:Array UInt8)|flt (b:UInt64)|ref (a:Addr)|ty (n:String)
 deriving DecidableEq
def RelV:V->Value->Prop
 | .non,u=>u=Value.none
 | .bl b,u=>u=Value.bool b
 | .int i,u=>∃t,u=Value.int i t
 | .str x,u=>∃t,u=Value.str x t
 | .byt b,u=>∃t,u=Value.bytes b t
 | .flt b,u=>∃t,u=Value.float b t
 | .ref a,u=>u=Value.ref a
 | .ty n,u=>u=Value.type n
abbrev Vals:List V->List Value->Prop:=Paired RelV
theorem Vals.length{xs:List V}{us:List Value}(r:Vals xs us):xs.length=us.length:=Paired.length r
theorem Vals.get:∀{xs:List V}{us:List Value}{i:Nat}{x:V},Vals xs us->xs[i]?=some x->∃u,us[i]?=some u/\RelV x u
 |_,_,_,_,.nil,e=>by simp at e
 |_,_,0,_,.cons r _,e=>by simp at e;subst e;exact⟨_,rfl,r⟩
 |_,_,i+1,x,.cons _ t,e=>by
  obtain⟨u,h1,h2⟩:=Vals.get (i:=i) (x:=x) t (by simpa using e);exact⟨u,by simpa using h1,h2⟩
theorem Vals.set{x:V}{u:Value}(r:RelV x u):∀{xs:List V}{us:List Value}(i:Nat),Vals xs us->Vals (xs.set i x) (us.set i u)
 |_,_,_,.nil=>.nil
 |_,_,0,.cons _ t=>.cons r t
 |_,_,i+1,.cons q t=>.cons q (Vals.set r i t)
theorem Vals.append:∀{xs ys:List V}{us ws:List Value},Vals xs us->Vals ys ws->Vals (xs++ys) (us++ws)
 |_,_,_,_,.nil,s=>s
 |_,_,_,_,.cons r t,s=>.cons r (Vals.append t s)
theorem Vals.take:∀{xs:List V}{us:List Value}(n:Nat),Vals xs us->Vals (xs.take n) (us.take n)
 |_,_,0,_=>.nil
 |_,_,_+1,.nil=>.nil
 |_,_,n+1,.cons r t=>.cons r (Vals.take n t)
theorem Vals.drop:∀{xs:List V}{us:List Value}(n:Nat),Vals xs us->Vals (xs.drop n) (us.drop n)
 |_,_,0,r=>r
 |_,_,_+1,.nil=>.nil
 |_,_,n+1,.cons _ t=>Vals.drop n t
def RelO:Option V->Option Value->Prop
 |some v,some u=>RelV v u
 |none,none=>True
 |_,_=>False
def KV{κ:Type}:List (κ×V)->List (κ×Value)->Prop:=Paired λ(p:κ×V) (q:κ×Value)=>p.1=q.1/\RelV p.2 q.2
noncomputable def kV:Key->V
 | .inl i=>.int i
 | .inr x=>.str x
inductive HO where
 |lst (xs:List V)
 |tup (xs:List V)
 |dK (kvs:List (Key×V))|dT (kvs:List (List Key×V))
 |set (S:Int->Bool) (n:Nat)
 |ins (C dx:Addr) (fs:List (Str×V))
 |own (x:Addr)
 |xd (fs:List (Str×V))
 |met (f x:Addr)
 |rng (lo hi:Int)
 |frz (o:Obj) (u:HO)
 |tbl (ps:Array Value)
 |ext (φ:Heap->Prop)
noncomputable abbrev Hp:=Addr->Option HO
noncomputable def upd(H:Hp)(a:Addr)(o:HO):Hp:=λb=>if b=a then some o else H b
theorem qF{H:Hp}{a:Addr}{o:HO}:upd H a o a=some o:=by unfold upd;rw[if_pos rfl]
theorem qG{H:Hp}{a b:Addr}{o:HO}(h:b≠a):upd H a o b=H b:=by unfold upd;rw[if_neg h]
theorem qD9{H:Hp}{a b:Addr}{o u:HO}(h:H a=some o)(h':H b=some u)(d:o≠u):a≠b:=by
 intro e;subst e;rw[h]at h';exact d (Option.some.inj h')
theorem ne_of_none{H:Hp}{a b:Addr}{o:HO}(h:H a=some o)(h':H b=none):a≠b:=by
 intro e;subst e;rw[h]at h';cases h'
section
variable (P:Program)(w:World)
def ObjOk(H:Hp)(h:Heap)(a:Addr):HO->Prop
 | .lst xs=>xs.length<=sizeLine/\∃(its:List Value) (n:Nat),Vals xs its/\h.get? a=some { cls:=.type "list",data:=.seq its.toArray n }
 | .tup xs=>xs.length<=sizeLine/\∃its:List Value,Vals xs its/\IsTup h a its.toArray
 | .dK kvs=>kvs.length<=sizeLine/\(a==sysModules)=false/\∃vs,KV kvs vs/\h.DictOf (qq P w) a vs
 | .dT kvs=>kvs.length<=sizeLine/\(a==sysModules)=false/\∃xs:List (List Key×Addr×Value),
   Paired (λ(p:List Key×V) (q:List Key×Addr×Value)=>p.1=q.1/\H q.2.1=some (.tup (p.1.map kV))/\RelV p.2 q.2.2) kvs xs/\
   ∃o es ep,h.get? a=some o/\o.ExactDict/\o.data=.dict es ep/\es.toList=xs.map (entryOfKey (tupleKind (qq P w)))/\(xs.map (·.1)).Nodup
 | .set S n=>h.SetOf (intKind P w) a S n
 | .ins C dx fs=>H dx=some (.own a)/\fs.length<=1000/\dx≠a/\h.get? a=some (PySem.W.instObj C dx)/\
   ∃mA,h.Ns1 dx mA/\(∀f,RelO (fs.lookup f) (mA f))/\PySem.Within mA (fs.map (·.1))
 | .own _=>∃o,h.get? a=some o
 | .xd fs=>∃mA,h.Ns1 a mA/\∀f,RelO (fs.lookup f) (mA f)
 | .rng lo hi=>∃t u v,h.get? a=some { cls:=.type "range",data:=.fields #[.int lo t,.int hi u,.int 1 v] }
 | .frz o u=>h.get? a=some o/\ObjOk H h a u
 | .tbl ps=>h.get? a=some { cls:=.none,data:=.fields ps }
 | .met f x=>h.get? a=some (PySem.W.methodObj (.ref f) (.ref x))
 | .ext φ=>φ h/\(∃o,h.get? a=some o)/\∀h1 h2:Heap,φ h1->(∀o,h1.get? a=some o->h2.get? a=some o)->φ h2
def HOk(H:Hp)(h:Heap):Prop:=∀a o,H a=some o->ObjOk P w H h a o
end
section
variable{P:Program}{w:World}{H H':Hp}{h h':Heap}{a:Addr}{o:HO}
theorem ObjOk.lt(x:ObjOk P w H h a o):a<h.objs.size:=by
 cases o with
 |lst xs=>obtain⟨_,_,_,_,e⟩:=x;exact Heap.lt_size e
 |tup xs=>obtain⟨_,_,_,p⟩:=x;exact p.lt
 |dK kvs=>obtain⟨_,_,_,_,o,_,_,e,_⟩:=x;exact Heap.lt_size e
 |dT kvs=>obtain⟨_,_,_,_,o,_,_,e,_⟩:=x;exact Heap.lt_size e
 |set S n=>obtain⟨o,_,_,_,e,_⟩:=x;exact Heap.lt_size e
 |ins C dx fs=>obtain⟨_,_,_,e,_⟩:=x;exact Heap.lt_size e
 |own y=>obtain⟨_,e⟩:=x;exact Heap.lt_size e
 |xd fs=>obtain⟨_,⟨_,_,_,e,_⟩,_⟩:=x;exact Heap.lt_size e
 |rng lo hi=>obtain⟨_,_,_,e⟩:=x;exact Heap.lt_size e
 |frz ob u=>obtain⟨e,_⟩:=x;exact Heap.lt_size e
 |tbl ps=>exact Heap.lt_size (show h.get? a=some _ from x)
 |met f y=>exact Heap.lt_size (show h.get? a=some _ from x)
 |ext φ=>obtain⟨_,⟨_,e⟩,_⟩:=x;exact Heap.lt_size e
theorem Paired.mapP{α β:Type}{F G:α->β->Prop}:∀{l₁:List α}{l₂:List β},Paired F l₁ l₂->(∀a b,F a b->G a b)->Paired G l₁ l₂
 |_,_,.nil,_=>.nil
 |_,_,.cons r t,f=>.cons (f _ _ r) (Paired.mapP t f)
theorem ObjOk.stay(x:ObjOk P w H h a o)(k:∀b u,(b=a\/H b=some (.own a))->h.get? b=some u->h'.get? b=some u)
  (ho:∀b,H b=some (.own a)->H' b=some (.own a)) (ht:∀b xs,H b=some (.tup xs)->H' b=some (.tup xs)):ObjOk P w H' h' a o:=by
 induction o with
 |lst xs=>obtain⟨z,its,n,r,e⟩:=x;exact⟨z,its,n,r,k _ _ (.inl rfl) e⟩
 |tup xs=>obtain⟨z,its,r,ob,e,c⟩:=x;exact⟨z,its,r,ob,k _ _ (.inl rfl) e,c⟩
 |dK kvs=>obtain⟨z,y,vs,r,ob,es,ep,e,c⟩:=x;exact⟨z,y,vs,r,ob,es,ep,k _ _ (.inl rfl) e,c⟩
 |dT kvs=>
  obtain⟨z,y,xs,r,ob,es,ep,e,c⟩:=x;exact⟨z,y,xs,Paired.mapP r λp q z=>⟨z.1,ht _ _ z.2.1,z.2.2⟩,ob,es,ep,k _ _ (.inl rfl) e,c⟩
 |set S n=>obtain⟨ob,es,ep,t,e,c⟩:=x;exact⟨ob,es,ep,t,k _ _ (.inl rfl) e,c⟩
 |ins C dx fs=>
  obtain⟨d,z,ne,e,mA,⟨od,es,ep,e2,c⟩,r⟩:=x;exact⟨ho _ d,z,ne,k _ _ (.inl rfl) e,mA,⟨od,es,ep,k _ _ (.inr d) e2,c⟩,r⟩
 |own y=>obtain⟨ob,e⟩:=x;exact⟨ob,k _ _ (.inl rfl) e⟩
 |xd fs=>obtain⟨mA,⟨od,es,ep,e,c⟩,r⟩:=x;exact⟨mA,⟨od,es,ep,k _ _ (.inl rfl) e,c⟩,r⟩
 |rng lo hi=>obtain⟨t,u,v,e⟩:=x;exact⟨t,u,v,k _ _ (.inl rfl) e⟩
 |frz ob u ih=>obtain⟨e,q⟩:=x;exact⟨k _ _ (.inl rfl) e,ih q⟩
 |tbl ps=>
  have e:h.get? a=some { cls:=.none,data:=.fields ps }:=x;show h'.get? a=some { cls:=.none,data:=.fields ps };exact k a _ (.inl rfl) e
 |met f y=>
  have e:h.get? a=some (PySem.W.methodObj (.ref f) (.ref y)):=x;show h'.get? a=some (PySem.W.methodObj (.ref f) (.ref y));exact k a _ (.inl rfl) e
 |ext φ=>obtain⟨p,⟨o,e⟩,st⟩:=x;exact⟨st _ _ p λo q=>k _ _ (.inl rfl) q,⟨o,k _ _ (.inl rfl) e⟩,st⟩
theorem HOk.lt(x:HOk P w H h)(e:H a=some o):a<h.objs.size:=(x a o e).lt
theorem HOk.fresh(x:HOk P w H h)(e:h.objs.size<=a):H a=none:=by
 cases q:H a with
 |none=>rfl
 |some u=>exact absurd (wK (x.lt q) e) (wf _)
theorem HOk.kept(x:HOk P w H h)(k:∀b u,h.get? b=some u->h'.get? b=some u):HOk P w H h':=λa o e=>
 (x a o e).stay (λb u _ q=>k b u q) (λ_ q=>q) λ_ _ q=>q
theorem HOk.laid(x:HOk P w H h)(k:∀b u,h.get? b=some u->h'.get? b=some u)(hp:h.objs.size<=a)(new:ObjOk P w (upd H a o) h' a o):HOk P w (upd H a o) h':=λb u e=>by
 have hn:=x.fresh hp;by_cases hb:b=a
 ·subst hb;rw[qF]at e;cases e;exact new
 ·rw[qG hb]at e;exact(x b u e).stay (λc v _ q=>k c v q) (λc q=>by rw[qG (ne_of_none q hn)];exact q) λc xs q=>by rw[qG (ne_of_none q hn)];exact q
end
def Rd(H:Hp)(a:Addr)(u:HO):Prop:=H a=some u\/∃o,H a=some (.frz o u)
theorem Rd.ok{P:Program}{w:World}{H:Hp}{h:Heap}{a:Addr}{u:HO}(r:Rd H a u)(x:HOk P w H h):ObjOk P w H h a u:=by
 rcases r with r|⟨o,r⟩
 ·exact x a u r
 ·obtain⟨_,q⟩:=x a _ r;exact q
def Mut:Option HO->Prop
 |some (.lst _)=>True
 |some (.dK _)=>True
 |some (.dT _)=>True
 |some (.set _ _)=>True
 |some (.ins _ _ _)=>True
 |some (.ext _)=>True
 |_=>False
section
variable{P:Program}{w:World}{H:Hp}{h h':Heap}{x e:Addr}{o':HO}
theorem HOk.write(ok:HOk P w H h)(mu:Mut (H x))(he:e=x\/H e=some (.own x))(k:∀b u,b≠e->h.get? b=some u->h'.get? b=some u)(heo:∃u,h'.get? e=some u)
  (new:ObjOk P w (upd H x o') h' x o'):HOk P w (upd H x o') h':=λb u q=>by
 have nown:∀c y,H c=some (.own y)->c≠x:=λc y r z=>by subst z;rw[r]at mu;exact mu
 have ntup:∀c xs,H c=some (.tup xs)->c≠x:=λc xs r z=>by subst z;rw[r]at mu;exact mu
 by_cases hb:b=x
 ·subst hb;rw[qF]at q;cases q;exact new
 ·rw[qG hb]at q;by_cases hbe:b=e
  ·have q':H b=some (.own x):=by
    rcases he with z|z
    ·exact absurd (hbe.trans z) hb
    ·rw[hbe];exact z
   rw[q]at q';cases q';obtain⟨v,hv⟩:=heo;exact⟨v,by rw[hbe];exact hv⟩
  ·refine(ok b u q).stay (λc v hc r=>k c v ?_ r) (λc r=>by rw[qG (nown c b r)];exact r) λc xs r=>by rw[qG (ntup c xs r)];exact r
   rcases hc with rfl|hc
   ·exact hbe
   ·rintro rfl;rcases he with z|z
    ·exact nown c b hc z
    ·rw[hc]at z;cases z;exact hb rfl
end
structure Un(fs ex:List Addr)(H H':Hp)(h h':Heap):Prop where
 keep:∀b o,h.get? b=some o->H b=none->b∉fs->b∉ex->h'.get? b=some o
 slot:∀b o,h.get? b=some o->H b=none->b∈fs->b∉ex->∃sl,h'.get? b=some { o with slots:=sl }
 free:∀b o,h.get? b=some o->H b=none->b∉ex->H' b=none
 there:∀b o,h.get? b=some o->b∉ex->∃o',h'.get? b=some o'
 tups:∀b xs,H b=some (.tup xs)->H' b=some (.tup xs)
 frzs:∀b o u,H b=some (.frz o u)->H' b=some (.frz o u)
 tbls:∀b ps,H b=some (.tbl ps)->∃more,H' b=some (.tbl (ps++more))
section
variable{fs fs' ex ex':List Addr}{H H1 H2:Hp}{h h1 h2 h':Heap}{a x e:Addr}{o:HO}
theorem Un.any(u:Un fs ex H H1 h h1){b:Addr}{ob:Obj}(q:h.get? b=some ob)(n:H b=none)(hx:b∉ex):∃sl,h1.get? b=some { ob with slots:=sl }:=by
 by_cases hb:b∈fs
 ·exact u.slot b ob q n hb hx
 ·exact⟨ob.slots,u.keep b ob q n hb hx⟩
theorem Un.kept(k:∀b u,h.get? b=some u->h'.get? b=some u):Un fs ex H H h h':=
 ⟨λb ob q _ _ _=>k b ob q,λb ob q _ _ _=>⟨ob.slots,k b ob q⟩,λ_ _ _ n _=>n,λb ob q _=>⟨ob,k b ob q⟩,λ_ _ q=>q,λ_ _ _ q=>q,λ_ ps q=>⟨#[],by rw[q];simp⟩⟩
theorem Un.refl:Un fs ex H H h h:=Un.kept λ_ _ q=>q
theorem Un.laid(k:∀b u,h.get? b=some u->h'.get? b=some u)(hp:h.objs.size<=a)(hn:H a=none):Un fs ex H (upd H a o) h h' where
 keep:=λb u q _ _ _=>k b u q
 slot:=λb u q _ _ _=>⟨u.slots,k b u q⟩
 free:=λb u q n _=>by rw[qG (wR (wK (Heap.lt_size q) hp))];exact n
 there:=λb u q _=>⟨u,k b u q⟩
 tups:=λb xs q=>by rw[qG (ne_of_none q hn)];exact q
 frzs:=λb u xs q=>by rw[qG (ne_of_none q hn)];exact q
 tbls:=λb ps q=>⟨#[],by rw[qG (ne_of_none q hn),q];simp⟩
theorem Un.write(mu:Mut (H x))(he:e=x\/H e=some (.own x))(k:∀b u,b≠e->h.get? b=some u->h'.get? b=some u)(heo:∃u,h'.get? e=some u):Un fs ex H (upd H x o) h h':=by
 have hx:∀b,H b=none->b≠x:=λb n z=>by subst z;rw[n]at mu;exact mu
 have hb:∀b,H b=none->b≠e:=λb n z=>by
  subst z;rcases he with r|r
  ·exact hx b n r
  ·rw[n]at r;cases r
 have hm:∀b u,H b=some u->¬ Mut (some u)->b≠x:=λb u q nm z=>by subst z;rw[q]at mu;exact nm mu
 refine⟨λb u q n _ _=>k b u (hb b n) q,λb u q n _ _=>⟨u.slots,k b u (hb b n) q⟩,λb u q n _=>by rw[qG (hx b n)];exact n,λb u q _=>?_,
  λb xs q=>by rw[qG (hm b _ q λz=>z)];exact q,λb u xs q=>by rw[qG (hm b _ q λz=>z)];exact q,λb ps q=>⟨#[],by rw[qG (hm b _ q λz=>z),q];simp⟩⟩
 by_cases hbe:b=e
 ·subst hbe;exact heo
 ·exact⟨u,k b u hbe q⟩
end
noncomputable def trk(h:Heap)(H:Hp):List Addr:=(List.range h.objs.size).filter λa=>(H a).isSome
noncomputable def f9(h:Heap)(H:Hp):Heap:=PySem.W.hideAll h (trk h H)
theorem P1(h:Heap)(H:Hp):(f9 h H).objs.size=h.objs.size:=PySem.W.hideAll_size _ _
theorem d9{h:Heap}{H:Hp}{b:Addr}{o:Obj}(e:h.get? b=some o)(n:H b=none):(f9 h H).get? b=some o:=
 PySem.W.hideAll_get _ e λhm=>by
  have q:(H b).isSome=true:=(List.mem_filter.mp hm).2;rw[n]at q;simp at q
theorem qAw{h:Heap}{H:Hp}{b:Addr}{o:Obj}(e:(f9 h H).get? b=some o):h.get? b=some o/\H b=none:=by
 have e':h.get? b=some o:=PySem.W.of_hideAll (trk h H) e;refine⟨e',?_⟩;cases q:H b with
 |none=>rfl
 |some x=>
  have hm:b∈trk h H:=List.mem_filter.mpr ⟨vN.mpr (Heap.lt_size e'),by simp[q]⟩;have z:(f9 h H).get? b=none:=PySem.W.hideAll_none (trk h H) hm;rw[z]at e;cases e
noncomputable def qA3(g h:Heap)(L:Addr):List (Addr×Obj):=(List.range h.objs.size).filterMap λa=>if a=L\/(g.get? a).isSome=true then none else (h.get? a).map λo=>(a,o)
noncomputable def QI(g h:Heap)(L d:Addr):List (Addr×Obj):=(qA3 g h L).filter λp=>decide (p.1≠d)
structure Mod(K:PySem.W.Frag)(mg:Str->Option Value)(base:Heap):Prop where
 kin:K.In base
 glob:base.Ns mainGlobals mg
 blt:∃mb,base.Ns builtinsNs mb/\∀x:Str,x≠"__name__" -> mb x=bootBuiltins x
 nolimit:base.NoLimit
set_option genInjectivity false in structure Cx where
 prog:Program
 w:World
 K:PySem.W.Frag
 mg:Str->Option Value
 base:Heap
 A:Around
 N:List Str
 s₀:Shared
 H₀:Hp
 env:Env
 outer:List Env
 stack:List Env
 ex:List Addr
 fn:Str->Bool
 calm:Bool
 pn:List (Addr×Obj)
 xe:Value->Shared->Prop
noncomputable def frs(l:List Env):List Addr:=l.filterMap (·.frame)
noncomputable abbrev Cx.fs(X:Cx):List Addr:=frs X.outer
def Vis(sc:Scope)(x:Str):Prop:=sc.names.lookup x=some .local\/sc.names.lookup x=some .cell\/sc.names.lookup x=some .free
def Loc(sc:Scope)(x:Str):Prop:=sc.names.lookup x=some .local\/sc.names.lookup x=some .cell
def qGY(env:Env)(h:Heap)(m:Str->Option Value)(x:Str)(u:Value):Prop:=
 (env.kindOf x=some .local/\m x=some u)\/((env.kindOf x=some .cell\/env.kindOf x=some .free)/\∃c,env.cells.lookup x=some c/\h.IsCell c (some u))
structure Cx.Ok(X:Cx):Prop where
 mod:Mod X.K X.mg X.base
 kind:X.env.scope.kind=.function
 glob:X.env.globals=mainGlobals
 blt:X.env.builtins=builtinsNs
 above:X.s₀.heap.objs.size<=X.env.locals
 inj:∀x y c,X.env.cells.lookup x=some c->X.env.cells.lookup y=some c->x=y
 has:∀x,(X.env.kindOf x=some .cell\/X.env.kindOf x=some .free)->∃c,X.env.cells.lookup x=some c
 cab:∀x c,X.fn x=true->X.env.cells.lookup x=some c->X.s₀.heap.objs.size<=c
 hd:X.calm=true->X.A.handled=none
 frames:X.A.frames=some X.stack
 stk:X.stack=X.outer\/(X.stack=X.env::X.outer/\X.env.frame=some X.env.locals)
 exf:∀b∈X.ex,b≠X.env.locals/\∀x c,X.env.cells.lookup x=some c->c≠b
 bs:∀b o,X.base.get? b=some o->X.s₀.heap.get? b=some o/\X.H₀ b=none
 bsz:X.base.objs.size<=X.s₀.heap.objs.size
 noex:∀b o,X.base.get? b=some o->b∉X.ex
 exfs:∀b∈X.ex,b∉X.fs
 funs:X.s₀.heap.FunFrames X.base X.outer
 frf:∀b∈X.fs,X.H₀ b=none
structure Inv(X:Cx)(pins:List (Addr×Obj))(σ:List (Option V))(H:Hp)(s:Shared):Prop where
 ok:X.Ok
 os:s.os=X.s₀.os
 bare:AllBare s.gens
 base:Un X.fs X.ex X.H₀ H X.s₀.heap s.heap
 loc:∃m,s.heap.Ns X.env.locals m/\∀(i:Nat) (x:Str) (v:V),X.N[i]?=some x->σ[i]?=some (some v)->Vis X.env.scope x->∃u,RelV v u/\qGY X.env s.heap m x u
 cell:∀x c,X.env.cells.lookup x=some c->∃v,s.heap.IsCell c v
 free:H X.env.locals=none
 freeC:∀x c,X.env.cells.lookup x=some c->H c=none
 pin:∀p∈X.pn++pins,s.heap.get? p.1=some p.2/\H p.1=none/\p.1≠X.env.locals/\p.1∉X.fs/\∀v,p.2.data≠.cell v
 hok:HOk X.prog X.w H s.heap
 len:σ.length=X.N.length
section
variable{X:Cx}{pins:List (Addr×Obj)}{σ:List (Option V)}{H H':Hp}{s:Shared}{h':Heap}
theorem Cx.Ok.nofr(ok:X.Ok){b:Addr}{o:Obj}(e:X.base.get? b=some o):b∉X.fs:=λhb=>by
 have:=(ok.funs.mem hb).1;rw[e]at this;cases this
theorem Inv.bs(I:Inv X pins σ H s):∀b o,X.base.get? b=some o->s.heap.get? b=some o/\H b=none:=λb o e=>
 ⟨I.base.keep b o (I.ok.bs b o e).1 (I.ok.bs b o e).2 (I.ok.nofr e) (I.ok.noex b o e),I.base.free b o (I.ok.bs b o e).1 (I.ok.bs b o e).2 (I.ok.noex b o e)⟩
theorem Inv.bk(I:Inv X pins σ H s):∀b o,X.base.get? b=some o->s.heap.get? b=some o:=λb o e=>(I.bs b o e).1
theorem Inv.mod(I:Inv X pins σ H s):Mod X.K X.mg X.base:=I.ok.mod
theorem Inv.kIn(I:Inv X pins σ H s):X.K.In s.heap:=I.ok.mod.kin.keeps I.bk
theorem Inv.lt(I:Inv X pins σ H s):X.env.locals<s.heap.objs.size:=let ⟨_,hn,_⟩:=I.loc;hn.lt
theorem Inv.sz(I:Inv X pins σ H s):X.s₀.heap.objs.size<=s.heap.objs.size:=wM I.ok.above (wo I.lt)
theorem Inv.nofs(I:Inv X pins σ H s){a:Addr}(h:s.heap.objs.size<=a):a∉X.fs:=λhb=>by
 obtain⟨_,o,ho,_⟩:=I.ok.funs.mem hb;exact absurd (wK (Heap.lt_size ho) (wM I.sz h)) (wf _)
theorem Inv.cne(I:Inv X pins σ H s):∀x c,X.env.cells.lookup x=some c->c≠X.env.locals:=λx c e z=>by
 obtain⟨v,o,ho,hd⟩:=I.cell x c e;obtain⟨m,⟨o',es,ep,ho',hd',_⟩,_⟩:=I.loc;rw[z,ho']at ho;cases ho;rw[hd']at hd;cases hd
theorem Inv.funs(I:Inv X pins σ H s):s.heap.FunFrames X.base X.outer:=by
 have all:∀(l:List Env),(∀b∈frs l,b∈X.fs)->X.s₀.heap.FunFrames X.base l->s.heap.FunFrames X.base l:=by
  intro l
  induction l with
  |nil=>intro _ _;trivial
  |cons env r ih=>
   intro hs hl;obtain⟨hk,⟨L,o,hf,hn,ho,hd⟩,hr⟩:=hl;have hL:L∈X.fs:=hs L (by unfold frs;rw[vS,hf];exact wP);obtain⟨sl,e⟩:=I.base.slot L o ho (I.ok.frf L hL) hL λz=>I.ok.exfs L z hL;exact⟨hk,⟨L,_,hf,hn,e,hd⟩,ih (λb hb=>hs b (by unfold frs;rw[vS,hf];exact wN _ hb)) hr⟩
 exact all X.outer (λ_ hb=>hb) I.ok.funs
theorem Inv.stack(I:Inv X pins σ H s):s.heap.FunFrames X.base X.stack:=by
 rcases I.ok.stk with e|⟨e,hf⟩
 ·rw[e];exact I.funs
 ·rw[e];obtain⟨m,hn,_⟩:=I.loc;refine .cons (by rw[I.ok.kind];decide) hf hn ?_ I.funs;exact Heap.get?_none_of_le (wM I.ok.bsz I.ok.above)
theorem Inv.stkSub(I:Inv X pins σ H s):∀b∈frs X.stack,b∈X.env.locals::X.fs:=λb hb=>by
 rcases I.ok.stk with e|⟨e,hf⟩
 ·rw[e]at hb;exact wN _ hb
 ·rw[e]at hb;unfold frs at hb;rw[vS,hf]at hb;exact hb
theorem Inv.stkFree(I:Inv X pins σ H s):∀b∈frs X.stack,H b=none:=λb hb=>by
 rcases wI.mp (I.stkSub b hb) with e|hb
 ·rw[e];exact I.free
 ·obtain⟨_,o,ho,_⟩:=I.ok.funs.mem hb;exact I.base.free b o ho (I.ok.frf b hb) λz=>I.ok.exfs b z hb
theorem Inv.step{g':Array GenState}{t':Nat}{d':Drawn}{ch:List Addr}(I:Inv X pins σ H s)
  (hch:∀b∈ch,(b∈X.ex\/X.s₀.heap.objs.size<=b)/\b≠X.env.locals/\(∀x c,X.env.cells.lookup x=some c->c≠b)/\∀p∈X.pn++pins,p.1≠b)
  (keep:∀b o,b≠X.env.locals->b∉X.fs->b∉ch->s.heap.get? b=some o->H b=none->h'.get? b=some o)
  (slot:∀b o,b≠X.env.locals->b∈X.fs->b∉ch->s.heap.get? b=some o->H b=none->∃sl,h'.get? b=some { o with slots:=sl }) (free:∀b o,b∉ch->s.heap.get? b=some o->H b=none->H' b=none)
  (there:∀b o,b∉ch->s.heap.get? b=some o->∃o',h'.get? b=some o')
  (tups:∀b xs,H b=some (.tup xs)->H' b=some (.tup xs)) (frzs:∀b o u,H b=some (.frz o u)->H' b=some (.frz o u)) (tbls:∀b ps,H b=some (.tbl ps)->∃more,H' b=some (.tbl (ps++more)))
  (ns:∀m,s.heap.Ns X.env.locals m->h'.Ns X.env.locals m) (hok:HOk X.prog X.w H' h') (hg:AllBare g'):
  Inv X pins σ H' { s with heap:=h',gens:=g',drawn:=d',toks:=t' }:=by
 have neL:∀b o,X.s₀.heap.get? b=some o->b≠X.env.locals:=λb o e=>wR (wK (Heap.lt_size e) I.ok.above);have neC:∀b o,X.s₀.heap.get? b=some o->b∉X.ex->b∉ch:=λb o e hx hb=>by
  rcases(hch b hb).1 with z|z
  ·exact hx z
  ·exact absurd (wK (Heap.lt_size e) z) (wf _)
 have cellK:∀x c,X.env.cells.lookup x=some c->∀v,s.heap.IsCell c v->h'.IsCell c v:=λx c e v ⟨o,ho,hd⟩=>by
  have nch:c∉ch:=λz=>(hch c z).2.2.1 x c e rfl;by_cases hc:c∈X.fs
  ·obtain⟨sl,q⟩:=slot c o (I.cne x c e) hc nch ho (I.freeC x c e);exact⟨_,q,hd⟩
  ·exact⟨o,keep c o (I.cne x c e) hc nch ho (I.freeC x c e),hd⟩
 refine⟨I.ok,I.os,hg,⟨λb o e n hb hx=>?_,λb o e n hb hx=>?_,λb o e n hx=>?_,λb o e hx=>?_,λb xs e=>tups b xs (I.base.tups b xs e),λb o xs e=>frzs b o xs (I.base.frzs b o xs e),λb ps e=>?_⟩,?_,λx c e=>?_,?_,λx c e=>?_,λp hp=>?_,hok,I.len⟩
 ·exact keep b o (neL b o e) hb (neC b o e hx) (I.base.keep b o e n hb hx) (I.base.free b o e n hx)
 ·obtain⟨sl,e1⟩:=I.base.slot b o e n hb hx;obtain⟨sl',e2⟩:=slot b _ (neL b o e) hb (neC b o e hx) e1 (I.base.free b o e n hx);exact⟨sl',e2⟩
 ·obtain⟨o',e1⟩:=I.base.there b o e hx;exact free b o' (neC b o e hx) e1 (I.base.free b o e n hx)
 ·obtain⟨o',e1⟩:=I.base.there b o e hx;exact there b o' (neC b o e hx) e1
 ·obtain⟨m1,e1⟩:=I.base.tbls b ps e;obtain⟨m2,e2⟩:=tbls b _ e1;exact⟨m1++m2,by rw[e2,Array.append_assoc]⟩
 ·obtain⟨m,hn,hl⟩:=I.loc;refine⟨m,ns m hn,λi x v e1 e2 e3=>?_⟩;obtain⟨u,r,l⟩:=hl i x v e1 e2 e3;refine⟨u,r,?_⟩;rcases l with l|⟨k,c,e,z⟩
  ·exact .inl l
  ·exact .inr ⟨k,c,e,cellK x c e _ z⟩
 ·obtain⟨v,z⟩:=I.cell x c e;exact⟨v,cellK x c e v z⟩
 ·obtain⟨m,⟨o,_,_,ho,_⟩,_⟩:=I.loc;exact free _ o (λz=>(hch _ z).2.1 rfl) ho I.free
 ·obtain⟨v,o,ho,hd⟩:=I.cell x c e;exact free c o (λz=>(hch c z).2.2.1 x c e rfl) ho (I.freeC x c e)
 ·obtain⟨e,n,ne,nf,d⟩:=I.pin p hp;have nch:p.1∉ch:=λz=>(hch p.1 z).2.2.2 p hp rfl;exact⟨keep p.1 p.2 ne nf nch e n,free p.1 p.2 nch e n,ne,nf,d⟩
theorem Inv.un{t':Nat}(I:Inv X pins σ H s)(u:Un X.fs [] H H' s.heap h')(hok:HOk X.prog X.w H' h'):Inv X pins σ H' { s with heap:=h',toks:=t' }:=by
 obtain⟨m,⟨o,es,ep,ho,r⟩,_⟩:=id I.loc;obtain⟨sl,hL⟩:=u.any ho I.free (by simp);exact I.step (g':=s.gens) (d':=s.drawn) (ch:=[]) (λ_ z=>nomatch z) (λb o _ hb _ e n=>u.keep b o e n hb (by simp)) (λb o _ hb _ e n=>u.slot b o e n hb (by simp)) (λb o _ e n=>u.free b o e n (by simp)) (λb o _ e=>u.there b o e (by simp)) u.tups u.frzs u.tbls (λm' hm=>by
  obtain⟨o',es',ep',ho',r'⟩:=hm;rw[ho]at ho';cases ho';exact⟨_,es',ep',hL,r'⟩) hok I.bare
theorem Inv.call{g':Array GenState}{t':Nat}{d':Drawn}{ch:List Addr}(I:Inv X pins σ H s)(u:Un (frs X.stack) ch H H' s.heap h')(hok:HOk X.prog X.w H' h')(hg:AllBare g')
  (hch:∀b∈ch,(b∈X.ex\/X.s₀.heap.objs.size<=b)/\b≠X.env.locals/\(∀x c,X.env.cells.lookup x=some c->c≠b)/\∀p∈X.pn++pins,p.1≠b):
  Inv X pins σ H' { s with heap:=h',gens:=g',drawn:=d',toks:=t' }:=by
 obtain⟨m,⟨o,es,ep,ho,r⟩,_⟩:=id I.loc;obtain⟨sl,hL⟩:=u.any ho I.free λz=>(hch _ z).2.1 rfl;exact I.step (ch:=ch) hch (λb o hL hb hc e n=>u.keep b o e n (λz=>(wI.mp (I.stkSub b z)).elim hL hb) hc) (λb o _ _ hc e n=>u.any e n hc) (λb o hc e n=>u.free b o e n hc) (λb o hc e=>u.there b o e hc) u.tups u.frzs u.tbls (λm' hm=>by
  obtain⟨o',es',ep',ho',r'⟩:=hm;rw[ho]at ho';cases ho';exact⟨_,es',ep',hL,r'⟩) hok hg
theorem Inv.turned{t':Nat}{it:Addr}(I:Inv X pins σ H s)(k:∀b o,b≠it->s.heap.get? b=some o->h'.get? b=some o)(hn:H it=none)(hL:it≠X.env.locals)
  (h1:it∈X.ex\/X.s₀.heap.objs.size<=it) (h2:∀x c,X.env.cells.lookup x=some c->c≠it) (h3:∀p∈X.pn++pins,p.1≠it):Inv X pins σ H { s with heap:=h',toks:=t' }:=by
 have nit:∀b u,H b=some u->b≠it:=λb u e z=>by rw[z,hn]at e;cases e
 refine I.step (g':=s.gens) (d':=s.drawn) (ch:=[it]) (λb hb=>?_) (λb o _ _ hc e _=>k b o (λz=>hc (by simp[z])) e) (λb o _ _ hc e _=>⟨o.slots,k b o (λz=>hc (by simp[z])) e⟩) (λ_ _ _ _ n=>n)
  (λb o hc e=>⟨o,k b o (λz=>hc (by simp[z])) e⟩) (λ_ _ e=>e) (λ_ _ _ e=>e) (λb ps e=>⟨#[],by rw[e];simp⟩) (λm hm=>?_) (λb u e=>?_) I.bare
 ·have e:b=it:=by simpa using hb
  subst e;exact⟨h1,hL,h2,h3⟩
 ·obtain⟨o,es,ep,ho,r⟩:=hm;exact⟨o,es,ep,k _ o (Ne.symm hL) ho,r⟩
 ·refine(I.hok b u e).stay (λc v hc q=>k c v ?_ q) (λ_ q=>q) λ_ _ q=>q;rcases hc with z|z
  ·rw[z];exact nit b u e
  ·exact nit c _ z
theorem Inv.tok(I:Inv X pins σ H s)(t:Nat):Inv X pins σ H { s with toks:=t }:=I.un (h':=s.heap) (t':=t) Un.refl I.hok
theorem Inv.kept{t':Nat}(I:Inv X pins σ H s)(k:∀b u,s.heap.get? b=some u->h'.get? b=some u):Inv X pins σ H { s with heap:=h',toks:=t' }:=I.un (Un.kept k) (I.hok.kept k)
theorem Inv.laid{a:Addr}{o:HO}{t':Nat}(I:Inv X pins σ H s)(k:∀b u,s.heap.get? b=some u->h'.get? b=some u)(hp:s.heap.objs.size<=a)(new:ObjOk X.prog X.w (upd H a o) h' a o):
  Inv X pins σ (upd H a o) { s with heap:=h',toks:=t' }:=I.un (Un.laid k hp (I.hok.fresh hp)) (I.hok.laid k hp new)
theorem Inv.write{x e:Addr}{o:HO}{t':Nat}(I:Inv X pins σ H s)(mu:Mut (H x))(he:e=x\/H e=some (.own x))(k:∀b u,b≠e->s.heap.get? b=some u->h'.get? b=some u)(heo:∃u,h'.get? e=some u)
  (new:ObjOk X.prog X.w (upd H x o) h' x o):Inv X pins σ (upd H x o) { s with heap:=h',toks:=t' }:=I.un (Un.write mu he k heo) (I.hok.write mu he k heo new)
theorem Inv.pins_of{pins':List (Addr×Obj)}(I:Inv X pins σ H s)(h:∀p∈pins',s.heap.get? p.1=some p.2/\H p.1=none/\p.1≠X.env.locals/\p.1∉X.fs/\∀v,p.2.data≠.cell v):Inv X pins' σ H s:=
 ⟨I.ok,I.os,I.bare,I.base,I.loc,I.cell,I.free,I.freeC,λp hp=>(wJ.mp hp).elim (λz=>I.pin p (wO _ z)) (h p),I.hok,I.len⟩
theorem G3{N:List Str}(hN:N.Nodup){i j:Nat}{x:Str}(a:N[i]?=some x)(b:N[j]?=some x):i=j:=by
 obtain⟨h1,e1⟩:=wC.mp a;obtain⟨h2,e2⟩:=wC.mp b;exact(List.getElem_inj hN).mp (e1.trans e2.symm)
theorem JS{M:Model}{A:Around}{E:Value->Shared->Prop}{i:Nat}{x:Str}{v:V}{u:Value}{Q:Unit->Shared->Prop}(I:Inv X pins σ H s)(hN:X.N.Nodup)(hi:X.N[i]?=some x)(hx:Loc X.env.scope x)(r:RelV v u)
  (h:∀s',Inv X pins (σ.set i (some v)) H s'->(∃a,Heap.SameBut a s.heap s'.heap/\(a=X.env.locals\/X.env.cells.lookup x=some a))->Q () s') (hf:X.fn x=true\/X.env.scope.names.lookup x=some .local:=by first|exact .inl rfl|exact .inr rfl|assumption):wpAny M A (storeName X.env x u) Q E s:=by
 obtain⟨m,hn,hl⟩:=id I.loc;have hcls:(X.env.scope.kind==.class||(X.env.scope.kind==.module&&X.env.locals != X.env.globals))=false:=by rw[I.ok.kind];rfl
 have hiσ:i<σ.length:=by rw[I.len];exact(wC.mp hi).1
 have cne:=I.cne;have tracked:∀{a:Addr}{h':Heap},(∃o,s.heap.get? a=some o/\H a=none)->Heap.SameBut a s.heap h'->HOk X.prog X.w H h':=λ{a h'} ha hs b ob e=>by
  obtain⟨_,_,hfree⟩:=ha;refine(I.hok b ob e).stay (λc w' hc q=>(hs.2 c ?_).trans q) (λ_ q=>q) λ_ _ q=>q;rintro rfl;rcases hc with rfl|hc
  ·rw[hfree]at e;cases e
  ·rw[hfree]at hc;cases hc
 rcases hx with hk|hk
 ·refine wpAny_storeName_local hk hn (λh' hn' hs=>?_) hcls;obtain⟨oL,_,_,hoL,_⟩:=id hn;refine h _ ⟨I.ok,I.os,I.bare,⟨λb o e n hb hx=>?_,λb o e n hb hx=>?_,I.base.free,λb o e hx=>?_,I.base.tups,I.base.frzs,I.base.tbls⟩,⟨_,hn',λj y v' e1 e2 e3=>?_⟩,λy c e=>?_,I.free,I.freeC,λp hp=>?_,tracked ⟨oL,hoL,I.free⟩ hs,by simpa using I.len⟩ ⟨_,hs,.inl rfl⟩
  ·exact(hs.2 b (wR (wK (Heap.lt_size e) I.ok.above))).trans (I.base.keep b o e n hb hx)
  ·obtain⟨sl,e1⟩:=I.base.slot b o e n hb hx;exact⟨sl,(hs.2 b (wR (wK (Heap.lt_size e) I.ok.above))).trans e1⟩
  ·obtain⟨o',e1⟩:=I.base.there b o e hx;exact⟨o',(hs.2 b (wR (wK (Heap.lt_size e) I.ok.above))).trans e1⟩
  ·by_cases hj:j=i
   ·subst hj;rw[hi]at e1;cases e1;rw[wj hiσ]at e2;cases e2;exact⟨u,r,.inl ⟨hk,by simp⟩⟩
   ·rw[wa (Ne.symm hj)]at e2;obtain⟨u',r',q⟩:=hl j y v' e1 e2 e3;refine⟨u',r',?_⟩;rcases q with⟨k,e⟩|⟨k,c,e,z⟩
    ·refine .inl ⟨k,?_⟩;have:y≠x:=λe=>hj (G3 hN e1 (e ▸ hi));simp[this,e]
    ·exact .inr ⟨k,c,e,z.sameBut hs (cne y c e)⟩
  ·obtain⟨w',z⟩:=I.cell y c e;exact⟨w',z.sameBut hs (cne y c e)⟩
  ·obtain⟨e,n,ne,nf,d⟩:=I.pin p hp;exact⟨(hs.2 p.1 ne).trans e,n,ne,nf,d⟩
 ·have hfn:X.fn x=true:=by
   rcases hf with z|z
   ·exact z
   ·rw[z]at hk;cases hk
  obtain⟨c,hc⟩:=I.ok.has x (.inl hk);obtain⟨w',z⟩:=I.cell x c hc;refine wpAny_storeName_cell I.ok.kind hk hc z (λh' hc' hs=>?_);obtain⟨oc,hoc,hocd⟩:=id z;refine h { s with heap:=h' } ⟨I.ok,I.os,I.bare,⟨λb o e n hb hx=>?_,λb o e n hb hx=>?_,I.base.free,λb o e hx=>?_,I.base.tups,I.base.frzs,I.base.tbls⟩,⟨m,hn.sameBut hs (Ne.symm (cne x c hc)),λj y v' e1 e2 e3=>?_⟩,λy c' e=>?_,I.free,I.freeC,λp hp=>?_,tracked ⟨oc,hoc,I.freeC x c hc⟩ hs,by simpa using I.len⟩ ⟨c,hs,.inr hc⟩
  ·exact(hs.2 b (wR (wK (Heap.lt_size e) (I.ok.cab x c hfn hc)))).trans (I.base.keep b o e n hb hx)
  ·obtain⟨sl,e1⟩:=I.base.slot b o e n hb hx;exact⟨sl,(hs.2 b (wR (wK (Heap.lt_size e) (I.ok.cab x c hfn hc)))).trans e1⟩
  ·obtain⟨o',e1⟩:=I.base.there b o e hx;exact⟨o',(hs.2 b (wR (wK (Heap.lt_size e) (I.ok.cab x c hfn hc)))).trans e1⟩
  ·by_cases hj:j=i
   ·subst hj;rw[hi]at e1;cases e1;rw[wj hiσ]at e2;cases e2;exact⟨u,r,.inr ⟨.inl hk,c,hc,hc'⟩⟩
   ·rw[wa (Ne.symm hj)]at e2;obtain⟨u',r',q⟩:=hl j y v' e1 e2 e3;refine⟨u',r',?_⟩;rcases q with q|⟨k,c',e,z'⟩
    ·exact .inl q
    ·refine .inr ⟨k,c',e,z'.sameBut hs ?_⟩;rintro rfl;exact hj (G3 hN e1 (I.ok.inj _ _ _ e hc ▸ hi))
  ·by_cases hcc:c'=c
   ·subst hcc;exact⟨_,hc'⟩
   ·obtain⟨w2,z2⟩:=I.cell y c' e;exact⟨w2,z2.sameBut hs hcc⟩
  ·obtain⟨e,n,ne,nf,d⟩:=I.pin p hp;refine⟨(hs.2 p.1 ?_).trans e,n,ne,nf,d⟩;intro q;rw[q,hoc]at e;have q':oc=p.2:=Option.some.inj e;exact d w' (by rw[<-q'];exact hocd)
theorem jh{M:Model}{A:Around}{E:Value->Shared->Prop}{i:Nat}{x:Str}{v:V}{u:Value}{Q:Unit->Shared->Prop}(I:Inv X pins σ H s)(hN:X.N.Nodup)(hi:X.N[i]?=some x)(hx:Loc X.env.scope x)(r:RelV v u)
  (h:∀s',Inv X pins (σ.set i (some v)) H s'->Q () s') (hf:X.fn x=true\/X.env.scope.names.lookup x=some .local:=by first|exact .inl rfl|exact .inr rfl|assumption):wpAny M A (storeName X.env x u) Q E s:=
 JS I hN hi hx r (λs' I' _=>h s' I') hf
theorem Inv.call'{s':Shared}{ch:List Addr}(I:Inv X pins σ H s)(ho:s'.os=s.os)(u:Un (frs X.stack) ch H H' s.heap s'.heap)(hok:HOk X.prog X.w H' s'.heap)(hg:AllBare s'.gens)
  (hch:∀b∈ch,(b∈X.ex\/X.s₀.heap.objs.size<=b)/\b≠X.env.locals/\(∀x c,X.env.cells.lookup x=some c->c≠b)/\∀p∈X.pn++pins,p.1≠b):Inv X pins σ H' s':=by
 obtain⟨h',g',d',t',o'⟩:=s';have e:o'=s.os:=ho;subst e;exact I.call (g':=g') (t':=t') (d':=d') u hok hg hch
end
noncomputable abbrev XK:=Value->Option Addr->Hp->Prop
noncomputable abbrev St:=List (Option V)
noncomputable abbrev VK:=V->Hp->Prop
noncomputable abbrev TE:=St->Hp->VK->Prop
noncomputable abbrev TT:=St->Hp->(Bool->Hp->Prop)->Prop
noncomputable abbrev TA:=St->Hp->(List V->Hp->Prop)->Prop
structure O0 where
 nx:St->Hp->Prop
 rt:VK
 bk:St->Hp->Prop:=λ_ _=>False
 ct:St->Hp->Prop:=λ_ _=>False
noncomputable abbrev TS:=O0->St->Hp->Prop
def EP(X:Cx)(pins:List (Addr×Obj))(σ:St)(Q:VK)(u:Value)(s':Shared):Prop:=∃v H',Inv X pins σ H' s'/\RelV v u/\Q v H'
def TP(X:Cx)(pins:List (Addr×Obj))(σ:St)(Q:Bool->Hp->Prop)(b:Bool)(s':Shared):Prop:=∃H',Inv X pins σ H' s'/\Q b H'
def AP(X:Cx)(pins:List (Addr×Obj))(σ:St)(Q:List V->Hp->Prop)(us:List Value)(s':Shared):Prop:=∃vs H',Inv X pins σ H' s'/\Vals vs us/\Q vs H'
def SP(X:Cx)(pins:List (Addr×Obj))(D:O0)(f:Flow)(s':Shared):Prop:=
 match f with
 | .next=>∃σ' H',Inv X pins σ' H' s'/\D.nx σ' H'
 | .brk=>∃σ' H',Inv X pins σ' H' s'/\D.bk σ' H'
 | .cont=>∃σ' H',Inv X pins σ' H' s'/\D.ct σ' H'
 | .ret u=>∃v σ' H',Inv X pins σ' H' s'/\RelV v u/\D.rt v H'
def PE(X:Cx)(e:Expr)(t:TE):Prop:=
 ∀(pins:List (Addr×Obj)) (s:Shared) (σ:St) (H:Hp) (Q:VK),Inv X pins σ H s->t σ H Q->wpAny (model X.prog X.w) X.A (eval e X.env) (EP X pins σ Q) X.xe s
def PT(X:Cx)(e:Expr)(t:TT):Prop:=
 ∀(pins:List (Addr×Obj)) (s:Shared) (σ:St) (H:Hp) (Q:Bool->Hp->Prop),Inv X pins σ H s->t σ H Q->wpAny (model X.prog X.w) X.A (isTrue e X.env (eval e X.env)) (TP X pins σ Q) X.xe s
def PW(X:Cx)(e:Expr)(t:TT):Prop:=
 ∀(whole:Sem Value) (pins:List (Addr×Obj)) (s:Shared) (σ:St) (H:Hp) (Q:Bool->Hp->Prop),Inv X pins σ H s->t σ H Q->wpAny (model X.prog X.w) X.A (isTrue e X.env whole) (TP X pins σ Q) X.xe s
theorem PW.pt{X:Cx}{e:Expr}{t:TT}(h:PW X e t):PT X e t:=h _
def PA(X:Cx)(es:List Expr)(t:TA):Prop:=
 ∀(pos:Pos) (pins:List (Addr×Obj)) (s:Shared) (σ:St) (H:Hp) (Q:List V->Hp->Prop),Inv X pins σ H s->t σ H Q->wpAny (model X.prog X.w) X.A (spliced (backTo pos (starEach es X.env))) (AP X pins σ Q) X.xe s
def PS(X:Cx)(st:Stmt)(t:TS):Prop:=
 ∀(pins:List (Addr×Obj)) (s:Shared) (σ:St) (H:Hp) (D:O0),Inv X pins σ H s->t D σ H->wpAny (model X.prog X.w) X.A (exec st X.env) (SP X pins D) X.xe s
def PSs(X:Cx)(st:List Stmt)(t:TS):Prop:=
 ∀(pins:List (Addr×Obj)) (s:Shared) (σ:St) (H:Hp) (D:O0),Inv X pins σ H s->t D σ H->wpAny (model X.prog X.w) X.A (execs st X.env) (SP X pins D) X.xe s
theorem thn{α:Type}{t:Sem α}{Q Q':α->Shared->Prop}{M:Model}{A:Around}{E:Value->Shared->Prop}{s:Shared}(h:wpAny M A t Q E s)(hQ:∀a s,Q a s->Q' a s):wpAny M A t Q' E s:=wpAny_mono h hQ λ_ _ x=>x
section
variable{X:Cx}
theorem bin{a b:Expr}{ta tb:TE}(ha:PE X a ta)(hb:PE X b tb){pins:List (Addr×Obj)}{s:Shared}{σ:St}{H:Hp}{R:V->V->Hp->Prop}(I:Inv X pins σ H s)(h:ta σ H λx H1=>tb σ H1 λy H2=>R x y H2)
  {α:Type}{Q:α->Shared->Prop}{f:Value->Value->Sem α}
  (hf:∀v u s2 x y H2,Inv X pins σ H2 s2->RelV x v->RelV y u->R x y H2->wpAny (model X.prog X.w) X.A (f v u) Q X.xe s2):
  wpAny (model X.prog X.w) X.A (eval a X.env) (λv s₁=>wpAny (model X.prog X.w) X.A (eval b X.env) (λu s₂=>wpAny (model X.prog X.w) X.A (f v u) Q X.xe s₂) X.xe s₁) X.xe s:=by
 refine thn (ha pins s σ H _ I h) λv s1 ⟨x,H1,I1,r1,q1⟩=>?_;refine thn (hb pins s1 σ H1 _ I1 q1) λu s2 ⟨y,H2,I2,r2,q2⟩=>?_;exact hf v u s2 x y H2 I2 r1 r2 q2
noncomputable def qGI(i:Nat):TE:=λσ H Q=>∃v,σ[i]?=some (some v)/\Q v H
noncomputable def tC(v:V):TE:=λ_ H Q=>Q v H
theorem pe_var{i:Nat}{x:Str}{pos:Pos}(hN:X.N[i]?=some x)(hv:Vis X.env.scope x)(hd:(x==("__debug__":Str))=false:=by decide)(hcd:(x==("__classdict__":Str))=false:=by decide):PE X (.Name x pos) (qGI i):=by
 intro pins s σ H Q I h;obtain⟨v,e,h⟩:=h;obtain⟨m,hn,hl⟩:=I.loc;obtain⟨u,r,l⟩:=hl i x v hN e hv;have fin:EP X pins σ Q u s:=⟨v,H,I,r,h⟩
 rcases l with⟨hk,hm⟩|⟨hk,c,hc,hcell⟩
 ·exact wpAny_Name (wpAny_loadName_local I.ok.kind hk hn hm fin) hd
 ·rcases hk with hk|hk
  ·exact wpAny_Name (wpAny_loadName_cell I.ok.kind hk hc hcell fin) hd
  ·exact wpAny_Name (wpAny_loadName_free I.ok.kind hk hc hcell fin hcd) hd
theorem pe_int {i j pos}:PE X (.Constant (.int i) j pos) (tC (.int i)):=λ_ _ _ H _ I h=>wpAny_Constant_int ⟨.int i,H,I.tok _,⟨_,rfl⟩,h⟩
theorem pe_bl {b j pos}:PE X (.Constant (.bool b) j pos) (tC (.bl b)):=λ_ _ _ H _ I h=>Constant_bool ⟨.bl b,H,I,rfl,h⟩
theorem pe_non {j pos}:PE X (.Constant .none j pos) (tC .non):=λ_ _ _ H _ I h=>Constant_none ⟨.non,H,I,rfl,h⟩
theorem pe_str {x j pos}:PE X (.Constant (.str x) j pos) (tC (.str x)):=λ_ _ _ H _ I h=>Calls.Constant_str ⟨.str x,H,I.tok _,⟨_,rfl⟩,h⟩
def Gl(X:Cx)(x:Str):Prop:=X.env.kindOf x=some .globalImplicit
theorem A2{E:Value->Shared->Prop}{pins:List (Addr×Obj)}{s:Shared}{σ:St}{H:Hp}{x:Str}{u:Value}{pos:Pos}{Q:Value->Shared->Prop}(I:Inv X pins σ H s)(hg:Gl X x)(hm:X.mg x=some u)(h:Q u s)
  (hd:(x==("__debug__":Str))=false:=by decide):wpAny (model X.prog X.w) X.A (eval (.Name x pos) X.env) Q E s:=
 Calls.Name_function_global I.ok.kind hg (Calls.loadGlobal_global (by rw[I.ok.glob];exact I.mod.glob.keeps I.bk) hm h) hd
theorem ld_blt{E:Value->Shared->Prop}{pins:List (Addr×Obj)}{s:Shared}{σ:St}{H:Hp}{x:Str}{u:Value}{pos:Pos}{Q:Value->Shared->Prop}(I:Inv X pins σ H s)(hg:Gl X x)(hm:X.mg x=none)(hv:bootBuiltins x=some u)(h:Q u s)
  (hn:x≠"__name__":=by decide) (hd:(x==("__debug__":Str))=false:=by decide):wpAny (model X.prog X.w) X.A (eval (.Name x pos) X.env) Q E s:=by
 obtain⟨mb,h1,h2⟩:=I.mod.blt;exact Calls.Name_function_global I.ok.kind hg (Calls.loadGlobal_builtin (by rw[I.ok.glob];exact I.mod.glob.keeps I.bk) hm (by rw[I.ok.blt];exact h1.keeps I.bk) ((h2 x hn).trans hv) h) hd
theorem pe_glob{x:Str}{v:V}{u:Value}{pos:Pos}(hg:Gl X x)(hm:X.mg x=some u)(r:RelV v u)(hd:(x==("__debug__":Str))=false:=by decide):PE X (.Name x pos) (tC v):=
 λ_ _ _ H _ I h=>A2 I hg hm ⟨v,H,I,r,h⟩ hd
theorem pe_bltn{x:Str}{v:V}{u:Value}{pos:Pos}(hg:Gl X x)(hm:X.mg x=none)(hv:bootBuiltins x=some u)(r:RelV v u)(hn:x≠"__name__":=by decide)(hd:(x==("__debug__":Str))=false:=by decide):PE X (.Name x pos) (tC v):=
 λ_ _ _ H _ I h=>ld_blt I hg hm hv ⟨v,H,I,r,h⟩ hn hd
variable{a b:Expr}{ta tb:TE}{pos:Pos}
def PC(X:Cx)(op:CmpOp)(a b:Expr)(t:TE):Prop:=
 ∀(pins:List (Addr×Obj)) (s:Shared) (σ:St) (H:Hp) (Q:VK),Inv X pins σ H s->t σ H Q ->
  wpAny (model X.prog X.w) X.A (eval a X.env) (λv s₁=>wpAny (model X.prog X.w) X.A (eval b X.env) (λu s₂=>wpAny (model X.prog X.w) X.A (compareOp op v u) (EP X pins σ Q) X.xe s₂) X.xe s₁) X.xe s
noncomputable def tB(t:TE):TT:=λσ H Q=>t σ H λx H1=>∃c,x=.bl c/\Q c H1
theorem qCx{op:CmpOp}{t:TE}(h:PC X op a b t)(h1:behindInMarks op b=false:=by first|exact nobehind _ (by decide) (by decide)|rfl):PE X (.Compare a [op] [b] pos) t:=λpins s σ H Q I hw=>wpAny_Compare1 (h pins s σ H Q I hw) h1
theorem pt_val{e:Expr}{t:TE}(h:PE X e t)(he:∀whole,isTrue e X.env whole=(do let v <- whole;standAt e.pos;holding [v] (truthy v)):=by intro _;rfl):PT X e (tB t):=by
 intro pins s σ H Q I hw;refine isTrue_plain (thn (h pins s σ H _ I hw) λv s1 ⟨x,H1,I1,r1,q1⟩=>?_) (he _);obtain⟨d,rfl,q⟩:=q1;cases r1;exact vo ⟨H1,I1,q⟩
variable{tA tB':TT}{QI:List Expr}
noncomputable def tAnd(t u:TT):TT:=λσ H Q=>t σ H λc H1=>if c=true then u σ H1 Q else Q false H1
noncomputable def tOr(t u:TT):TT:=λσ H Q=>t σ H λc H1=>if c=true then Q true H1 else u σ H1 Q
noncomputable def qGZ(t:TT):TT:=λσ H Q=>t σ H λc H1=>Q (!c) H1
theorem pw_and1(ha:PT X a tA):PW X (.BoolOp .And [a] pos) tA:=by
 intro wh pins s σ H Q I h;refine isTrue_and (thn (ha pins s σ H Q I h) λc s1 e=>?_);cases c with
 |true=>exact isTrue_and_nil e
 |false=>exact e
theorem pw_or1(ha:PT X a tA):PW X (.BoolOp .Or [a] pos) tA:=by
 intro wh pins s σ H Q I h;refine isTrue_or (thn (ha pins s σ H Q I h) λc s1 e=>?_);cases c with
 |false=>exact isTrue_or_nil e
 |true=>exact e
theorem pw_and(ha:PT X a tA)(hb:PW X (.BoolOp .And (b::QI) pos) tB'):PW X (.BoolOp .And (a::b::QI) pos) (tAnd tA tB'):=by
 intro wh pins s σ H Q I h;refine isTrue_and (thn (ha pins s σ H _ I h) λc s1 ⟨H1,I1,q1⟩=>?_);cases c with
 |true=>exact hb wh pins s1 σ H1 Q I1 q1
 |false=>exact⟨H1,I1,q1⟩
theorem pw_or(ha:PT X a tA)(hb:PW X (.BoolOp .Or (b::QI) pos) tB'):PW X (.BoolOp .Or (a::b::QI) pos) (tOr tA tB'):=by
 intro wh pins s σ H Q I h;refine isTrue_or (thn (ha pins s σ H _ I h) λc s1 ⟨H1,I1,q1⟩=>?_);cases c with
 |true=>exact⟨H1,I1,q1⟩
 |false=>exact hb wh pins s1 σ H1 Q I1 q1
theorem pt_not(ha:PT X a tA):PT X (.UnaryOp .Not a pos) (qGZ tA):=by
 intro pins s σ H Q I h;exact isTrue_not (ha pins s σ H (λc H1=>Q (!c) H1) I h)
noncomputable def tAndV(ta tb:TE):TE:=λσ H Q=>ta σ H λx H1=>∃c,x=.bl c/\if c=true then tb σ H1 Q else Q (.bl false) H1
noncomputable def tOrV(ta tb:TE):TE:=λσ H Q=>ta σ H λx H1=>∃c,x=.bl c/\if c=true then Q (.bl true) H1 else tb σ H1 Q
noncomputable def qD4(ta:TE):TE:=λσ H Q=>ta σ H λx H1=>∃c,x=.bl c/\Q (.bl (!c)) H1
theorem pe_one {op}{t:TE}(h:PE X a t):PE X (.BoolOp op [a] pos) t:=λpins s σ H Q I hw=>BoolOp_one (h pins s σ H Q I hw)
theorem pe_and(ha:PE X a ta)(hb:PE X (.BoolOp .And (b::QI) pos) tb):PE X (.BoolOp .And (a::b::QI) pos) (tAndV ta tb):=by
 intro pins s σ H Q I h;refine BoolOp_and (thn (ha pins s σ H _ I h) λv s1 ⟨x,H1,I1,r1,q1⟩=>?_);obtain⟨c,rfl,q1⟩:=q1;cases r1;refine vo ?_;cases c with
 |true=>exact hb pins s1 σ H1 Q I1 q1
 |false=>exact⟨.bl false,H1,I1,rfl,q1⟩
theorem pe_or(ha:PE X a ta)(hb:PE X (.BoolOp .Or (b::QI) pos) tb):PE X (.BoolOp .Or (a::b::QI) pos) (tOrV ta tb):=by
 intro pins s σ H Q I h;refine BoolOp_or (thn (ha pins s σ H _ I h) λv s1 ⟨x,H1,I1,r1,q1⟩=>?_);obtain⟨c,rfl,q1⟩:=q1;cases r1;refine vo ?_;cases c with
 |false=>exact hb pins s1 σ H1 Q I1 q1
 |true=>exact⟨.bl true,H1,I1,rfl,q1⟩
theorem pe_not(ha:PE X a ta):PE X (.UnaryOp .Not a pos) (qD4 ta):=by
 intro pins s σ H Q I h;refine UnaryOp_ (thn (ha pins s σ H _ I h) λv s1 ⟨x,H1,I1,r1,q1⟩=>?_);obtain⟨c,rfl,q1⟩:=q1;cases r1;exact not_of (vo ⟨.bl (!c),H1,I1,rfl,q1⟩)
end
def SqL(K:PySem.W.Frag)(H:Hp)(a:Addr)(xs:List V):Prop:=
 Rd H a (.lst xs)\/
  ∃(o:Obj) (its:Array Value) (n:Nat),K.lookup a=some o/\o.cls=.type "list"/\o.dict=none/\o.data=.seq its n/\its.size<=sizeLine/\Vals xs its.toList
def SqT(K:PySem.W.Frag)(H:Hp)(a:Addr)(xs:List V):Prop:=
 Rd H a (.tup xs)\/
  ∃(o:Obj) (its:Array Value) (n:Nat),K.lookup a=some o/\o.cls=.type "tuple"/\o.data=.seq its n/\its.size<=sizeLine/\Vals xs its.toList
noncomputable def qGB:Value->Option V
 | .none=>some .non
 | .bool b=>some (.bl b)
 | .int i _=>some (.int i)
 | .str x _=>some (.str x)
 | .bytes b _=>some (.byt b)
 | .float b _=>some (.flt b)
 | .ref a=>some (.ref a)
 | .type n=>some (.ty n)
 |_=>none
theorem RelV.abs{x:V}{u:Value}(r:RelV x u):qGB u=some x:=by
 cases x with
 |non=>cases r;rfl
 |bl _=>cases r;rfl
 |int _=>obtain⟨t,rfl⟩:=r;rfl
 |str _=>obtain⟨t,rfl⟩:=r;rfl
 |byt _=>obtain⟨t,rfl⟩:=r;rfl
 |flt _=>obtain⟨t,rfl⟩:=r;rfl
 |ref _=>cases r;rfl
 |ty _=>cases r;rfl
theorem RelV.inj{x y:V}{u:Value}(r:RelV x u)(q:RelV y u):x=y:=Option.some.inj (r.abs.symm.trans q.abs)
theorem Vals.inj:∀{xs ys:List V}{us:List Value},Vals xs us->Vals ys us->xs=ys
 |_,_,_,.nil,.nil=>rfl
 |_,_,_,.cons r t,.cons r' t'=>by rw[r.inj r',Vals.inj t t']
section
variable{X:Cx}{pins:List (Addr×Obj)}{σ:St}{H:Hp}{s:Shared}{a:Addr}{xs ys:List V}
theorem Inv.list(I:Inv X pins σ H s)(h:SqL X.K H a xs):∃its:List Value,Vals xs its/\PlainL s.heap a its.toArray/\xs.length<=sizeLine:=by
 rcases h with h|⟨o,its,n,hk,hc,hd,hs,hz,r⟩
 ·obtain⟨z,its,n,r,e⟩:=h.ok I.hok;exact⟨its,r,⟨_,n,e,rfl,rfl,rfl⟩,z⟩
 ·refine⟨its.toList,r,⟨o,n,I.kIn a o hk,hc,hd,by simpa using hs⟩,?_⟩;have e:=r.length;simp only[wZ]at e;omega
theorem Inv.tuple(I:Inv X pins σ H s)(h:SqT X.K H a xs):∃its:List Value,Vals xs its/\IsTup s.heap a its.toArray/\xs.length<=sizeLine:=by
 rcases h with h|⟨o,its,n,hk,hc,hs,hz,r⟩
 ·obtain⟨z,its,r,p⟩:=h.ok I.hok;exact⟨its,r,p,z⟩
 ·refine⟨its.toList,r,⟨o,I.kIn a o hk,hc,n,by simpa using hs⟩,?_⟩;have e:=r.length;simp only[wZ]at e;omega
theorem Inv.list_inj(I:Inv X pins σ H s)(h:SqL X.K H a xs)(h':SqL X.K H a ys):xs=ys:=by
 obtain⟨its,r,⟨o,n,e,_,_,d⟩,_⟩:=I.list h;obtain⟨its',r',⟨o',n',e',_,_,d'⟩,_⟩:=I.list h';rw[e]at e';cases e';rw[d]at d';injection d' with d1 _;have:its=its':=by simpa using congrArg Array.toList d1
 subst this;exact r.inj r'
theorem Inv.tuple_inj(I:Inv X pins σ H s)(h:SqT X.K H a xs)(h':SqT X.K H a ys):xs=ys:=by
 obtain⟨its,r,⟨o,e,_,n,d⟩,_⟩:=I.tuple h;obtain⟨its',r',⟨o',e',_,n',d'⟩,_⟩:=I.tuple h';rw[e]at e';cases e';rw[d]at d';injection d' with d1 _;have:its=its':=by simpa using congrArg Array.toList d1
 subst this;exact r.inj r'
end
noncomputable abbrev Cx.wish(X:Cx)(E:Value->Shared->Prop):Cx:={ X with xe:=E }
noncomputable abbrev Cx.nox(X:Cx):Cx:=X.wish λ_ _=>False
theorem Cx.Ok.wish{X:Cx}(ok:X.Ok)(E:Value->Shared->Prop):(X.wish E).Ok:=
 ⟨ok.mod,ok.kind,ok.glob,ok.blt,ok.above,ok.inj,ok.has,ok.cab,ok.hd,ok.frames,ok.stk,ok.exf,ok.bs,ok.bsz,ok.noex,ok.exfs,ok.funs,ok.frf⟩
theorem Cx.Ok.unwish{X:Cx}{E:Value->Shared->Prop}(ok:(X.wish E).Ok):X.Ok:=
 ⟨ok.mod,ok.kind,ok.glob,ok.blt,ok.above,ok.inj,ok.has,ok.cab,ok.hd,ok.frames,ok.stk,ok.exf,ok.bs,ok.bsz,ok.noex,ok.exfs,ok.funs,ok.frf⟩
section
variable{X:Cx}{pins:List (Addr×Obj)}{σ:St}{H:Hp}{s:Shared}{E:Value->Shared->Prop}
theorem Inv.wish(I:Inv X pins σ H s)(E:Value->Shared->Prop):Inv (X.wish E) pins σ H s:=⟨I.ok.wish E,I.os,I.bare,I.base,I.loc,I.cell,I.free,I.freeC,I.pin,I.hok,I.len⟩
theorem Inv.unwish(I:Inv (X.wish E) pins σ H s):Inv X pins σ H s:=⟨I.ok.unwish,I.os,I.bare,I.base,I.loc,I.cell,I.free,I.freeC,I.pin,I.hok,I.len⟩
theorem SP.unwish{D:O0}{f:Flow}{s':Shared}(h:SP (X.wish E) pins D f s'):SP X pins D f s':=by
 cases f with
 |next=>obtain⟨σ',H',I,q⟩:=h;exact⟨σ',H',I.unwish,q⟩
 |brk=>obtain⟨σ',H',I,q⟩:=h;exact⟨σ',H',I.unwish,q⟩
 |cont=>obtain⟨σ',H',I,q⟩:=h;exact⟨σ',H',I.unwish,q⟩
 |ret u=>obtain⟨v,σ',H',I,r,q⟩:=h;exact⟨v,σ',H',I.unwish,r,q⟩
theorem PSs.nox{st:List Stmt}{t:TS}(h:PSs X.nox st t):PSs X st t:=λpins s σ H D I hw=>
 wpAny_mono (h pins s σ H D (I.wish _) hw) (λ_ _ q=>q.unwish) λ_ _ z=>False.elim z
end
section
variable{X:Cx}{st:Stmt}{QI:List Stmt}{t u:TS}{e:Expr}{te:TE}{pos:Pos}
noncomputable def qDU:TS:=λD σ H=>D.nx σ H
noncomputable def qF7(t u:TS):TS:=λD σ H=>t { D with nx:=u D } σ H
theorem pss_nil:PSs X [] qDU:=λ_ _ σ H _ I h=>wpAny_execs_nil ⟨σ,H,I,h⟩
theorem pss_cons(h1:PS X st t)(h2:PSs X QI u):PSs X (st::QI) (qF7 t u):=by
 intro pins s σ H D I h;refine wpAny_execs_cons (thn (h1 pins s σ H { D with nx:=u D } I h) λf s1 q=>?_);cases f with
 |next=>
  obtain⟨σ',H',I',q⟩:=q;exact h2 pins s1 σ' H' D I' q
 |ret v=>exact q
 |brk=>exact q
 |cont=>exact q
theorem Inv.quiet{pins:List (Addr×Obj)}{σ:St}{H:Hp}{s:Shared}(I:Inv X pins σ H s):interactive X.env=false:=by simp[interactive,I.ok.kind]
noncomputable def qEX(te:TE):TS:=λD σ H=>te σ H λ_ H1=>D.nx σ H1
theorem ps_expr(he:PE X e te)(hs:swapsWith e none pos.line X.env=pure false:=by rfl):PS X (.Expr e pos) (qEX te):=by
 intro pins s σ H D I h;exact wpAny_Expr_any (thn (he pins s σ H _ I h) λv s1 ⟨x,H1,I1,r1,q1⟩=>⟨σ,H1,I1,q1⟩) I.quiet hs
noncomputable def qFl(te:TE):TS:=λD σ H=>te σ H D.rt
theorem ps_ret(he:PE X e te):PS X (.Return (some e) pos) (qFl te):=by
 intro pins s σ H D I h;exact wpAny_Return_some (thn (he pins s σ H _ I h) λv s1 ⟨x,H1,I1,r1,q1⟩=>⟨x,σ,H1,I1,r1,q1⟩)
noncomputable def qFy(c:TT)(t u:TS):TS:=λD σ H=>c σ H λb H1=>if b=true then t D σ H1 else u D σ H1
theorem ps_if{c:Expr}{a b:List Stmt}{tc:TT}(hc:PT X c tc)(ha:PSs X a t)(hb:PSs X b u):PS X (.If c a b pos) (qFy tc t u):=by
 intro pins s σ H D I h;refine wpAny_If (thn (hc pins s σ H _ I h) λd s1 ⟨H1,I1,q1⟩=>?_);cases d with
 |true=>exact ha pins s1 σ H1 D I1 q1
 |false=>exact hb pins s1 σ H1 D I1 q1
end
noncomputable abbrev TG:=V->St->Hp->(St->Hp->Prop)->Prop
noncomputable abbrev TGs:=List V->St->Hp->(St->Hp->Prop)->Prop
def PG(X:Cx)(target:Expr)(t:TG):Prop:=
 ∀(pins:List (Addr×Obj)) (s:Shared) (σ:St) (H:Hp) (v:V) (u:Value) (Q:St->Hp->Prop),Inv X pins σ H s->RelV v u->t v σ H Q ->
  wpAny (model X.prog X.w) X.A (assign target X.env u) (λ_ s'=>∃σ' H',Inv X pins σ' H' s'/\Q σ' H') X.xe s
def PGs(X:Cx)(ts:List Expr)(t:TGs):Prop:=
 ∀(pins:List (Addr×Obj)) (s:Shared) (σ:St) (H:Hp) (vs:List V) (us:List Value) (Q:St->Hp->Prop),Inv X pins σ H s->Vals vs us->t vs σ H Q ->
  wpAny (model X.prog X.w) X.A (assignInOrder ((assignEach ts X.env).map (·.2)) us) (λ_ s'=>∃σ' H',Inv X pins σ' H' s'/\Q σ' H') X.xe s
noncomputable abbrev TSet:=V->V->V->Hp->(Hp->Prop)->Prop
def PSet(X:Cx)(t:TSet):Prop:=
 ∀(pins:List (Addr×Obj)) (s:Shared) (σ:St) (H:Hp) (o i v:V) (ov iv u:Value) (Q:Hp->Prop),Inv X pins σ H s->RelV o ov->RelV i iv->RelV v u->t o i v H Q ->
  wpAny (model X.prog X.w) X.A (setItem ov iv u) (λ_ s'=>∃H',Inv X pins σ H' s'/\Q H') X.xe s
noncomputable abbrev TIp:=V->V->Hp->VK->Prop
def PIp(X:Cx)(op:Operator)(t:TIp):Prop:=
 ∀(pins:List (Addr×Obj)) (s:Shared) (σ:St) (H:Hp) (x y:V) (v u:Value) (Q:VK),Inv X pins σ H s->RelV x v->RelV y u->t x y H Q ->
  wpAny (model X.prog X.w) X.A (inplaceOp op v u) (EP X pins σ Q) X.xe s
section
variable{X:Cx}{pos:Pos}
noncomputable def qC0(i:Nat):TG:=λv σ H Q=>Q (σ.set i (some v)) H
theorem pg_name{i:Nat}{x:Str}(hN:X.N.Nodup)(hi:X.N[i]?=some x)(hx:Loc X.env.scope x)(hf:X.fn x=true\/X.env.scope.names.lookup x=some .local:=by first|exact .inl rfl|exact .inr rfl|assumption):PG X (.Name x pos) (qC0 i):=by
 intro pins s σ H v u Q I r h;exact wpAny_assign_Name (jh I hN hi hx r (λs' I'=>⟨_,H,I',h⟩) hf)
noncomputable def qGS:TGs:=λvs σ H Q=>vs=[]/\Q σ H
noncomputable def qDh(t:TG)(u:TGs):TGs:=λvs σ H Q=>∃v r,vs=v::r/\t v σ H λσ' H'=>u r σ' H' Q
theorem pgs_nil:PGs X [] qGS:=by
 intro pins s σ H vs us Q I r h;obtain⟨e,h⟩:=h;subst e;cases r;exact assignInOrder_nil ⟨σ,H,I,h⟩
theorem pgs_cons{e:Expr}{es:List Expr}{t:TG}{u:TGs}(h1:PG X e t)(h2:PGs X es u)
  (hs:(assignEach (e::es) X.env).map (·.2)=assign e X.env::(assignEach es X.env).map (·.2):=by rfl):PGs X (e::es) (qDh t u):=by
 intro pins s σ H vs us Q I r h;obtain⟨v,vr,e1,h⟩:=h;subst e1;cases r with
 |cons r rr=>
  rw[hs];refine assignInOrder_cons (thn (h1 pins s σ H _ _ _ I r h) λ_ s1 ⟨σ1,H1,I1,q1⟩=>?_);exact h2 pins s1 σ1 H1 _ _ Q I1 rr q1
noncomputable def qFn(K:PySem.W.Frag)(n:Nat)(t:TGs):TG:=λv σ H Q=>∃a xs,v=.ref a/\SqT K H a xs/\xs.length=n/\t xs σ H Q
theorem pg_tup{es:List Expr}{k:Nat}{t:TGs}{n:Nat}(hc:X.calm=true)(h:PGs X es t)
  (hn:(assignEach es X.env).length=n:=by rfl) (hst:(assignEach es X.env).findIdx? (·.1)=none:=by rfl):PG X (.Tuple es k pos) (qFn X.K n t):=by
 intro pins s σ H v u Q I r hw;obtain⟨a,xs,e1,hq,hl,hw⟩:=hw;subst e1;cases r;obtain⟨its,rv,ht,hz⟩:=I.tuple hq;refine assign_Tuple_tuple (I.ok.hd hc) ht (by simp[hn,<-hl,rv.length]) hst λh' hx=>?_;have I1:Inv X pins σ H { s with heap:=h' }:=I.kept (t':=s.toks) λb o e=>hx b o (wR (Heap.lt_size e)) e;exact h pins _ σ H xs _ Q I1 (by simpa using rv) hw
noncomputable def qFi(to ti:TE)(t:TSet):TG:=λv σ H Q=>to σ H λo H1=>ti σ H1 λi H2=>t o i v H2 λH3=>Q σ H3
theorem pg_sub{o i:Expr}{to ti:TE}{t:TSet}(ho:PE X o to)(hi:PE X i ti)(hs:PSet X t)
  (ha:∀v,assign (.Subscript o i pos) X.env v=(do
   let ov <- holding [v] (eval o X.env)
   let iv <- holding [v,ov] (eval i X.env)
   standAt pos
   holding [v,ov,iv] (setItem ov iv v)
   release [v,ov,iv] []):=by intro _;rfl):PG X (.Subscript o i pos) (qFi to ti t):=by
 intro pins s σ H v u Q I r h;rw[ha];refine vf (wpAny_holding (thn (ho pins s σ H _ I h) λov s1 ⟨x,H1,I1,r1,q1⟩=>?_));refine vf (wpAny_holding (thn (hi pins s1 σ H1 _ I1 q1) λiv s2 ⟨y,H2,I2,r2,q2⟩=>?_));refine vf (wpAny_standAt (vf (wpAny_holding (thn (hs pins s2 σ H2 x y v ov iv u _ I2 r1 r2 r q2) λ_ s3 ⟨H3,I3,q3⟩=>?_))));exact wpAny_release ⟨σ,H3,I3,q3⟩
noncomputable def tAsg(te:TE)(g:TG):TS:=λD σ H=>te σ H λx H1=>g x σ H1 D.nx
theorem ps_asg{tg e:Expr}{te:TE}{g:TG}(he:PE X e te)(hg:PG X tg g)(hs:swapsWithSole [tg] e pos.line X.env=pure false:=by rfl)(hw:swappedStores [tg] e X.env=pure none:=by rfl)
  (h1:(assignEach [tg] X.env).map (·.2)=[assign tg X.env]:=by rfl):PS X (.Assign [tg] e pos) (tAsg te g):=by
 intro pins s σ H D I h;refine wpAny_Assign_stores (thn (he pins s σ H _ I h) λv s1 ⟨x,H1,I1,r1,q1⟩=>?_) hs hw;rw[h1];exact thn (hg pins s1 σ H1 x v _ I1 r1 q1) λ_ s2 q=>q
noncomputable def qEZ(to ti te:TE)(tget:V->V->Hp->VK->Prop)(tip:TIp)(tset:TSet):TS:=λD σ H=>to σ H λo H1=>ti σ H1 λi H2=>tget o i H2 λx H3=>te σ H3 λy H4=>tip x y H4 λz H5=>tset o i z H5 λH6=>D.nx σ H6
def PGet(X:Cx)(t:V->V->Hp->VK->Prop):Prop:=
 ∀(pins:List (Addr×Obj)) (s:Shared) (σ:St) (H:Hp) (o i:V) (ov iv:Value) (Q:VK),Inv X pins σ H s->RelV o ov->RelV i iv->t o i H Q ->
  wpAny (model X.prog X.w) X.A (getItem ov iv) (EP X pins σ Q) X.xe s
theorem ps_augS{o i e:Expr}{to ti te:TE}{tget:V->V->Hp->VK->Prop}{tip:TIp}{tset:TSet}{op:Operator}{tpos:Pos}(ho:PE X o to)(hi:PE X i ti)(hg:PGet X tget)(he:PE X e te)(hp:PIp X op tip)(hs:PSet X tset)
  (ha:∀ov iv new,augStore i ov iv new=(do holding [new,ov,iv] (setItem ov iv new);release [new,ov,iv] [];pure .next):=by intros;rfl):PS X (.AugAssign (.Subscript o i tpos) op e pos) (qEZ to ti te tget tip tset):=by
 intro pins s σ H D I h;refine wpAny_AugAssign_SubscriptAny (thn (ho pins s σ H _ I h) λov s1 ⟨x1,H1,I1,r1,q1⟩=>?_) ha;refine thn (hi pins s1 σ H1 _ I1 q1) λiv s2 ⟨x2,H2,I2,r2,q2⟩=>?_;refine thn (hg pins s2 σ H2 x1 x2 ov iv _ I2 r1 r2 q2) λold s3 ⟨x3,H3,I3,r3,q3⟩=>?_;refine thn (he pins s3 σ H3 _ I3 q3) λv s4 ⟨x4,H4,I4,r4,q4⟩=>?_;refine thn (hp pins s4 σ H4 x3 x4 old v _ I4 r3 r4 q4) λnew s5 ⟨x5,H5,I5,r5,q5⟩=>?_;exact thn (hs pins s5 σ H5 x1 x2 x5 ov iv new _ I5 r1 r2 r5 q5) λ_ s6 ⟨H6,I6,q6⟩=>⟨σ,H6,I6,q6⟩
noncomputable def ipI(f:Int->Int->Int):TIp:=λx y H Q=>∃i j,x=.int i/\y=.int j/\Q (.int (f i j)) H
theorem ip_add:PIp X .Add (ipI λi j=>i+j):=by
 intro pins s σ H x y v u Q I r1 r2 h;obtain⟨i,j,e1,e2,q⟩:=h;subst e1;subst e2;obtain⟨t,rfl⟩:=r1;obtain⟨t',rfl⟩:=r2;exact iadd_int ⟨.int _,H,I.tok _,⟨_,rfl⟩,q⟩
end
section
variable{X:Cx}{pos:Pos}
noncomputable def qCJ(c:TT)(tb:TS):TS:=λD σ H=>∃W:Nat->St->Hp->Prop,(∃m,W m σ H)/\∀m σ H,W m σ H ->
 c σ H λb H1=>if b=true then ∃N:St->Hp->Prop,(∀σ' H',N σ' H'->∃m',m'<m/\W m' σ' H')/\tb { D with nx:=N,ct:=N,bk:=D.nx } σ H1 else D.nx σ H1
theorem ps_while{c:Expr}{body:List Stmt}{tc:TT}{tb:TS}(hp:PassesOwn (model X.prog X.w) X.A X.env X.xe)(hc:PT X c tc)(hb:PSs X body tb):PS X (.While c body [] pos) (qCJ tc tb):=by
 intro pins s σ H D I h;obtain⟨W,⟨m0,w0⟩,qAl⟩:=h;refine wpAny_While (codeAny_whileLoop (λn s'=>∃σ' H',Inv X pins σ' H' s'/\W n σ' H') ?_ m0 ⟨σ,H,I,w0⟩);rintro n s1 ⟨σ1,H1,I1,w1⟩;refine wpAny_passesOwn hp (thn (hc pins s1 σ1 H1 _ I1 (qAl n σ1 H1 w1)) λb s2 ⟨H2,I2,q2⟩=>?_);cases b with
 |true=>
  obtain⟨N,hN,q2⟩:=q2;rw[if_pos rfl];refine wpAny_passesOwn hp (thn (hb pins s2 σ1 H2 _ I2 q2) λf s3 q3=>?_);cases f with
  |next=>
   obtain⟨σ3,H3,I3,n3⟩:=q3;obtain⟨m',hm,w3⟩:=hN σ3 H3 n3;exact⟨m',hm,σ3,H3,I3,w3⟩
  |cont=>
   obtain⟨σ3,H3,I3,n3⟩:=q3;obtain⟨m',hm,w3⟩:=hN σ3 H3 n3;exact⟨m',hm,σ3,H3,I3,w3⟩
  |brk=>exact q3
  |ret v=>exact q3
 |false=>
  rw[if_neg wm];exact wpAny_execs_nil ⟨σ1,H2,I2,q2⟩
end
set_option genInjectivity false in structure It where
 go:Nat->Hp->Prop
 yld:Nat->Hp->V->Hp->Prop
 stop:Nat->Hp->Prop
def Qs(X:Cx)(pins:List (Addr×Obj))(H:Hp)(b:Addr):Prop:=
 H b=none/\b≠X.env.locals/\b∉X.fs/\(b∈X.ex\/X.s₀.heap.objs.size<=b)/\(∀x c,X.env.cells.lookup x=some c->c≠b)/\∀p∈X.pn++pins,p.1≠b
theorem Inv.fpOk{X:Cx}{pins:List (Addr×Obj)}{σ:St}{H H':Hp}{s:Shared}{b:Addr}(I:Inv X pins σ H s)(hb:s.heap.objs.size<=b)(hn:H' b=none):Qs X pins H' b:=by
 refine⟨hn,vX (wK I.lt hb),I.nofs hb,.inr (wM I.sz hb),λx c e z=>?_,λp hp z=>?_⟩
 ·obtain⟨v,q⟩:=I.cell x c e;exact absurd (wK q.lt (by rw[z];exact hb)) (wf _)
 ·exact absurd (wK (Heap.lt_size (I.pin p hp).1) (by rw[z];exact hb)) (wf _)
structure Zk(P:Program)(w:World)(K:PySem.W.Frag)(tg:Expr)(J:It)(fp:List Addr)(it:Addr)(tn:Nat->Heap->Prop):Prop where
 mem:it∈fp
 obj:∀i h,tn i h->∀b∈fp,∃o,h.get? b=some o/\∀v,o.data≠.cell v
 keep:∀i h h',tn i h->(∀b∈fp,∀o,h.get? b=some o->h'.get? b=some o)->tn i h'
 item:∀(X:Cx),X.prog=P->X.w=w->X.K=K->X.calm=true->∀(i:Nat) (pins:List (Addr×Obj)) (s:Shared) (σ:St) (H:Hp) (E:Value->Shared->Prop),Inv X pins σ H s->(∀b∈fp,Qs X pins H b)->tn i s.heap->J.go i H ->
  wpAny (model P w) X.A (pyNext (.ref it)) (λr s1=>∃u,r=some u/\
   wpAny (model P w) X.A (letOwnedTupleGo tg (.ref it) u) (λ_ s2=>∃x H',Inv X pins σ H' s2/\RelV x u/\J.yld i H x H'/\tn (i+1) s2.heap/\∀b∈fp,H' b=none) E s1) E s
 done:∀(X:Cx),X.prog=P->X.w=w->X.K=K->X.calm=true->∀(i:Nat) (pins:List (Addr×Obj)) (s:Shared) (σ:St) (H:Hp) (E:Value->Shared->Prop),Inv X pins σ H s->(∀b∈fp,Qs X pins H b)->tn i s.heap->J.stop i H ->
  wpAny (model P w) X.A (pyNext (.ref it)) (λr s1=>r=none/\Inv X pins σ H s1) E s
 self:∀(A:Around) (i:Nat) (s:Shared) (Q:Value->Shared->Prop) (E:Value->Shared->Prop),tn i s.heap->Q (.ref it) s->wpAny (model P w) A (pyIter (.ref it)) Q E s
noncomputable abbrev TI:=St->Hp->(It->Hp->Prop)->Prop
def PIE(X:Cx)(pins:List (Addr×Obj))(σ:St)(tg:Expr)(R:It->Hp->Prop)(itv:Value)(s2:Shared):Prop:=
 ∃(it:Addr) (fp:List Addr) (tn:Nat->Heap->Prop) (J:It) (H':Hp),itv=.ref it/\Inv X pins σ H' s2/\Zk X.prog X.w X.K tg J fp it tn/\tn 0 s2.heap/\(∀b∈fp,Qs X pins H' b)/\R J H'
def _P(X:Cx)(tg iter:Expr)(wi:TI):Prop:=
 ∀(pins:List (Addr×Obj)) (s:Shared) (σ:St) (H:Hp) (R:It->Hp->Prop),Inv X pins σ H s->wi σ H R ->
  wpAny (model X.prog X.w) X.A (eval iter X.env) (λv s1=>wpAny (model X.prog X.w) X.A (pyIter v) (PIE X pins σ tg R) X.xe s1) X.xe s
theorem go_of{M:Model}{A:Around}{E:Value->Shared->Prop}{s:Shared}{tg:Expr}{it:Addr}{u:Value}{o:Obj}{n:String}{vs:Array Value}{Q:Unit->Shared->Prop}(ho:s.heap.get? it=some o)(hc:o.cls=.type n)(hd:o.data=.fields vs)
  (hn:["enumerate","zip","dict_itemiterator","dict_reverseitemiterator","odict_iterator","itertools.zip_longest","itertools.pairwise"].contains n=false) (hQ:Q () s):wpAny M A (letOwnedTupleGo tg (.ref it) u) Q E s:=by
 unfold letOwnedTupleGo;cases tg<;>first
  |exact vg hQ
  | (cases u<;>first
    |exact vg hQ
    | (refine vf (wpAny_load ho ?_)
       rw[hc,hd];show wpAny M A (if (["enumerate","zip","dict_itemiterator","dict_reverseitemiterator","odict_iterator","itertools.zip_longest","itertools.pairwise"].contains n&&vs[0]?==some (rawInt _))=true then _ else _) Q E s;rw[if_neg (by intro h;rw[hn,Bool.false_and]at h;cases h)];exact vg hQ))
noncomputable def Itl(K:PySem.W.Frag)(a:Addr):It:=
 ⟨λi H=>∃xs x,SqL K H a xs/\xs[i]?=some x,λi H x H'=>H'=H/\∀xs,SqL K H a xs->xs[i]?=some x,λi H=>∃xs,SqL K H a xs/\xs.length<=i⟩
noncomputable def Itt(K:PySem.W.Frag)(a:Addr):It:=
 ⟨λi H=>∃xs x,SqT K H a xs/\xs[i]?=some x,λi H x H'=>H'=H/\∀xs,SqT K H a xs->xs[i]?=some x,λi H=>∃xs,SqT K H a xs/\xs.length<=i⟩
noncomputable def Itr(lo:Int)(n:Nat):It:=⟨λi _=>i<n,λi H x H'=>H'=H/\x=.int (lo+i),λi _=>n<=i⟩
theorem turn_list{P:Program}{w:World}{K:PySem.W.Frag}{tg:Expr}(a it:Addr):Zk P w K tg (Itl K a) [it] it (λi h=>h.IsListIter it a i) where
 mem:=by simp
 obj:=λi h st b hb=>by
  have e:b=it:=by simpa using hb
  subst e;obtain⟨o,e,c,d⟩:=st;exact⟨o,e,λv z=>by rw[d]at z;cases z⟩
 keep:=λi h h' st k=>st.at λo e=>k it (by simp) o e
 item:=by
  intro X hP hw hK hc i pins s σ H E I hf st hg;subst hP hw hK;obtain⟨xs,x,hq,hx⟩:=hg;obtain⟨its,rv,p,hz⟩:=I.list hq;obtain⟨u,hu,ru⟩:=rv.get hx;obtain⟨f0,f1,f2,f3,f4,f5⟩:=hf it (by simp);refine wpAny_pyNext_list_item st p.isList (x:=u) (by simpa using hu) λh' st' sb=>?_;have I1:Inv X pins σ H { s with heap:=h' }:=I.turned (t':=s.toks) (λb o hb e=>(sb.2 b hb).trans e) f0 f1 f3 f4 f5;obtain⟨o,e,c,d⟩:=id st';exact⟨u,rfl,go_of (s:={ s with heap:=h' }) e c d (by decide) ⟨x,H,I1,ru,⟨rfl,λys hy=>by rw[I.list_inj hy hq];exact hx⟩,st',λb hb=>(hf b hb).1⟩⟩
 done:=by
  intro X hP hw hK hc i pins s σ H E I hf st hg;subst hP hw hK;obtain⟨xs,hq,hx⟩:=hg;obtain⟨its,rv,p,hz⟩:=I.list hq;obtain⟨f0,f1,f2,f3,f4,f5⟩:=hf it (by simp);have hl:=rv.length;exact wpAny_pyNext_list_end (I.ok.hd hc) st p.isList (by simp;omega) λh' eb=>⟨rfl,I.turned (t':=s.toks) (λb o hb e=>eb b o hb e) f0 f1 f3 f4 f5⟩
 self:=λ_ _ _ _ _ st h=>wpAny_pyIter_listiter st h
theorem turn_tuple{P:Program}{w:World}{K:PySem.W.Frag}{tg:Expr}(a it:Addr):Zk P w K tg (Itt K a) [it] it (λi h=>h.IsTupleIter it a i) where
 mem:=by simp
 obj:=λi h st b hb=>by
  have e:b=it:=by simpa using hb
  subst e;obtain⟨o,e,c,d⟩:=st;exact⟨o,e,λv z=>by rw[d]at z;cases z⟩
 keep:=λi h h' st k=>st.at λo e=>k it (by simp) o e
 item:=by
  intro X hP hw hK hc i pins s σ H E I hf st hg;subst hP hw hK;obtain⟨xs,x,hq,hx⟩:=hg;obtain⟨its,rv,p,hz⟩:=I.tuple hq;obtain⟨u,hu,ru⟩:=rv.get hx;obtain⟨f0,f1,f2,f3,f4,f5⟩:=hf it (by simp);refine wpAny_pyNext_tuple_item st (show s.heap.IsTuple a its.toArray from p) (x:=u) (by simpa using hu) λh' st' sb=>?_;have I1:Inv X pins σ H { s with heap:=h' }:=I.turned (t':=s.toks) (λb o hb e=>(sb.2 b hb).trans e) f0 f1 f3 f4 f5;obtain⟨o,e,c,d⟩:=id st';exact⟨u,rfl,go_of (s:={ s with heap:=h' }) e c d (by decide) ⟨x,H,I1,ru,⟨rfl,λys hy=>by rw[I.tuple_inj hy hq];exact hx⟩,st',λb hb=>(hf b hb).1⟩⟩
 done:=by
  intro X hP hw hK hc i pins s σ H E I hf st hg;subst hP hw hK;obtain⟨xs,hq,hx⟩:=hg;obtain⟨its,rv,p,hz⟩:=I.tuple hq;obtain⟨f0,f1,f2,f3,f4,f5⟩:=hf it (by simp);have hl:=rv.length;exact wpAny_pyNext_tuple_end (I.ok.hd hc) st (show s.heap.IsTuple a its.toArray from p) (by simp;omega) λh' eb=>⟨rfl,I.turned (t':=s.toks) (λb o hb e=>eb b o hb e) f0 f1 f3 f4 f5⟩
 self:=λ_ _ _ _ _ st h=>wpAny_pyIter_tupleiter st h
theorem J9{P:Program}{w:World}{K:PySem.W.Frag}{tg:Expr}(it:Addr)(lo:Int)(n:Nat):Zk P w K tg (Itr lo n) [it] it (λi h=>IsRangeIter h it (lo+(i:Nat)*1) ((n:Int)-(i:Nat)) 1) where
 mem:=by simp
 obj:=λi h st b hb=>by
  have e:b=it:=by simpa using hb
  subst e;exact⟨_,st,λv z=>by
   have z':Data.fields _=Data.cell v:=z;cases z'⟩
 keep:=λi h h' st k=>k it (by simp) _ st
 item:=by
  intro X hP hw hK hc i pins s σ H E I hf st hg;subst hP hw hK;obtain⟨f0,f1,f2,f3,f4,f5⟩:=hf it (by simp);have W:=Walks.range (prog:=X.prog) (w:=X.w) (I.ok.hd hc) it lo 1 n;refine W.item i s _ _ hg st λv h' tk hv st' kk=>?_;obtain⟨t,rfl⟩:=hv;have I1:Inv X pins σ H { s with heap:=h',toks:=tk }:=I.turned (λb o hb e=>kk b o (by simpa using hb) e) f0 f1 f3 f4 f5;refine⟨_,rfl,go_of (s:={ s with heap:=h',toks:=tk }) (n:="range_iterator") st' rfl rfl (by decide) ⟨.int (lo+i),H,I1,⟨t,?_⟩,⟨rfl,rfl⟩,st',λb hb=>(hf b hb).1⟩⟩;rw[Int.mul_one]
 done:=by
  intro X hP hw hK hc i pins s σ H E I hf st hg;subst hP hw hK;obtain⟨f0,f1,f2,f3,f4,f5⟩:=hf it (by simp);exact wpAny_pyNext_range_end (I.ok.hd hc) st (by have:n<=i:=hg;omega) λh' eb=>⟨rfl,I.turned (t':=s.toks) (λb o hb e=>eb b o hb e) f0 f1 f3 f4 f5⟩
 self:=λ_ _ _ _ _ st h=>wpAny_pyIter_rangeiter st h
section
variable{X:Cx}{tg:Expr}
theorem E9{pins:List (Addr×Obj)}{σ:St}{H:Hp}{s:Shared}{R:It->Hp->Prop}{E:Value->Shared->Prop}{lo hi:Int}{t u v:Tok}{tk:Nat}(I:Inv X pins σ H s)(h1:-(2 ^ 62)<=lo)(h2:lo<2 ^ 62)(h3:-(2 ^ 62)<=hi)(h4:hi<2 ^ 62)
  (q:R (Itr lo (hi-lo).toNat) H):wpAny (model X.prog X.w) X.A (pyIter (.ref s.heap.objs.size)) (PIE X pins σ tg R) E { s with heap:=s.heap.push { cls:=.type "range",data:=.fields #[.int lo t,.int hi u,.int 1 v] },toks:=tk }:=by
 refine wpAny_pyIter_range (IsRange.new ..) (small_one h1 h2 h3 h4) ?_;have I1:Inv X pins σ H { s with heap:=s.heap.push { cls:=.type "range",data:=.fields #[.int lo t,.int hi u,.int 1 v] },toks:=tk }:=I.kept λb o e=>Heap.get?_push_of_some _ e;refine⟨(s.heap.push { cls:=.type "range",data:=.fields #[.int lo t,.int hi u,.int 1 v] }).objs.size,[(s.heap.push { cls:=.type "range",data:=.fields #[.int lo t,.int hi u,.int 1 v] }).objs.size],_,_,H,rfl,
  I1.kept (t':=tk) λb o e=>Heap.get?_push_of_some _ e,J9 _ lo (hi-lo).toNat,?_,λb hb=>?_,q⟩
 ·have e1:lo+((0:Nat):Int)*1=lo:=by simp
  have e2:(((hi-lo).toNat:Nat):Int)-((0:Nat):Int)=Builtin.Range.rangeSize lo hi 1:=by rw[rangeSize_one];split<;>omega
  show IsRangeIter _ _ (lo+((0:Nat):Int)*1) ((((hi-lo).toNat:Nat):Int)-((0:Nat):Int)) 1;rw[e1,e2];exact Heap.get?_push_size _ rfl
 ·have e:b=(s.heap.push { cls:=.type "range",data:=.fields #[.int lo t,.int hi u,.int 1 v] }).objs.size:=by simpa using hb
  subst e;exact I1.fpOk (wF _) (I1.hok.fresh (wF _))
noncomputable def qDp(ta:TA):TI:=λσ H R=>ta σ H λvs H1=>∃j:Int,vs=[.int j]/\-(2 ^ 62)<=j/\j<2 ^ 62/\R (Itr 0 j.toNat) H1
noncomputable def qDd(ta:TA):TI:=λσ H R=>ta σ H λvs H1=>∃i j:Int,vs=[.int i,.int j]/\(-(2 ^ 62)<=i/\i<2 ^ 62/\-(2 ^ 62)<=j/\j<2 ^ 62)/\R (Itr i (j-i).toNat) H1
theorem pi_range1{a:Expr}{ta:TA}{p pos:Pos}(hg:Gl X "range")(hm:X.mg "range"=none)(ha:PA X [a] ta)(hs:starEach [a] X.env=[(false,eval a X.env)]:=by rfl):_P X tg (.Call (.Name "range" p) [a] [] pos) (qDp ta):=by
 intro pins s σ H R I h;refine Call_ (ld_blt I hg hm boot_range (PyProof.Rows.callWith_type1 (thn (ha pos pins s σ H _ I h) λus s1 ⟨vs,H1,I1,r1,q1⟩=>?_) hs rfl));obtain⟨j,e,q1,q2,q⟩:=q1;subst e;cases r1 with
 |cons r rr=>
  cases rr;obtain⟨t,rfl⟩:=r;exact call_range_1 (E9 I1 (by omega) (by omega) q1 q2 (by simpa using q))
theorem pi_range2{a b:Expr}{ta:TA}{p pos:Pos}(hg:Gl X "range")(hm:X.mg "range"=none)(ha:PA X [a,b] ta)(hs:starEach [a,b] X.env=[(false,eval a X.env),(false,eval b X.env)]:=by rfl)(hs2:starEach [b] X.env=[(false,eval b X.env)]:=by rfl):
  _P X tg (.Call (.Name "range" p) [a,b] [] pos) (qDd ta):=by
 intro pins s σ H R I h;refine Call_ (ld_blt I hg hm boot_range (PyProof.Rows.callWith_type1 (thn (ha pos pins s σ H _ I h) λus s1 ⟨vs,H1,I1,r1,q1⟩=>?_) (by rw[hs,hs2]) (by rw[hs2];rfl)));obtain⟨i,j,e,⟨q1,q2,q3,q4⟩,q⟩:=q1;subst e;cases r1 with
 |cons r rr=>
  cases rr with
  |cons r' rr=>
   cases rr;obtain⟨t,rfl⟩:=r;obtain⟨t',rfl⟩:=r';exact call_range_2 (E9 I1 q1 q2 q3 q4 q)
noncomputable def qFo(wi:TI)(g:TG)(tb:TS):TS:=λD σ H=>wi σ H λJ H1=>∃W:Nat->Nat->St->Hp->Prop,(∃m,W 0 m σ H1)/\∀i m σ H,W i m σ H ->
 (J.stop i H/\D.nx σ H)\/(J.go i H/\∃N:St->Hp->Prop,(∀σ' H',N σ' H'->∃m',m'<m/\W (i+1) m' σ' H')/\∀x H',J.yld i H x H'->g x σ H' λσ2 H2=>tb { D with nx:=N,ct:=N,bk:=D.nx } σ2 H2)
noncomputable def JK(fp:List Addr)(h:Heap):List (Addr×Obj):=fp.filterMap λb=>(h.get? b).map λo=>(b,o)
theorem zw{fp:List Addr}{h:Heap}{b:Addr}{o:Obj}(hb:b∈fp)(e:h.get? b=some o):(b,o)∈JK fp h:=List.mem_filterMap.mpr ⟨b,hb,by rw[e];rfl⟩
theorem U8{fp:List Addr}{h:Heap}{p:Addr×Obj}(hp:p∈JK fp h):p.1∈fp/\h.get? p.1=some p.2:=by
 obtain⟨b,hb,e⟩:=List.mem_filterMap.mp hp;cases q:h.get? b with
 |none=>rw[q]at e;cases e
 |some o=>
  rw[q]at e;have e':(b,o)=p:=Option.some.inj e;subst e';exact⟨hb,q⟩
theorem Inv.pinned{pins:List (Addr×Obj)}{σ:St}{H:Hp}{s:Shared}{fp:List Addr}(I:Inv X pins σ H s)(hf:∀b∈fp,Qs X pins H b)(ho:∀b∈fp,∃o,s.heap.get? b=some o/\∀v,o.data≠.cell v):Inv X (pins++JK fp s.heap) σ H s:=
 I.pins_of λp hp=>(wJ.mp hp).elim (λz=>I.pin p (wQ _ z)) λz=>by
  obtain⟨hb,e⟩:=U8 z;obtain⟨f0,f1,f2,_⟩:=hf p.1 hb;obtain⟨o,e',d⟩:=ho p.1 hb;rw[e]at e';cases e';exact⟨e,f0,f1,f2,d⟩
theorem Inv.unpinned{pins pl:List (Addr×Obj)}{σ:St}{H:Hp}{s:Shared}(I:Inv X (pins++pl) σ H s):Inv X pins σ H s:=I.pins_of λp hp=>I.pin p (wQ _ (wO _ hp))
theorem ps_for{iter:Expr}{body:List Stmt}{wi:TI}{g:TG}{tb:TS}{pos:Pos}(hp:PassesOwn (model X.prog X.w) X.A X.env X.xe)(hc:X.calm=true)(hi:_P X tg iter wi)(hg:PG X tg g)(hb:PSs X body tb)
  (hs:∀x,foldedSetIterable iter X.env x=pure x:=by intro _;rfl):PS X (.For tg iter body [] pos) (qFo wi g tb):=by
 intro pins s σ H D I h;refine wpAny_For (thn (hi pins s σ H _ I h) λv s1 h1=>thn h1 λitv s2 h2=>?_) hs;obtain⟨it,fp,tn,J,H2,e,I2,T,st2,f2,W,⟨m0,w0⟩,qAl⟩:=h2;subst e;have stat:∀{H':Hp},(∀b∈fp,H' b=none)->∀b∈fp,Qs X pins H' b:=λhn b hb=>⟨hn b hb,(f2 b hb).2⟩
 refine codeAny_forLoop_any (λn s'=>∃i σ' H',Inv X pins σ' H' s'/\tn i s'.heap/\(∀b∈fp,H' b=none)/\W i n σ' H') ?_ m0 ⟨0,σ,H2,I2,st2,λb hb=>(f2 b hb).1,w0⟩;rintro n s3 ⟨i,σ3,H3,I3,st3,fr3,w3⟩;rcases qAl i n σ3 H3 w3 with⟨stop,qn⟩|⟨go,N,hN,step⟩
 ·refine wpAny_passesOwn hp (thn (T.done X rfl rfl rfl hc i pins s3 σ3 H3 X.xe I3 (stat fr3) st3 stop) λr s4 ⟨hr,I4⟩=>?_);subst hr;exact wpAny_execs_nil ⟨σ3,H3,I4,qn⟩
 ·refine wpAny_passesOwn hp (thn (T.item X rfl rfl rfl hc i pins s3 σ3 H3 X.xe I3 (stat fr3) st3 go) λr s4 ⟨u,hr,h4⟩=>?_);subst hr;refine wpAny_passesOwn hp (thn h4 λ_ s5 ⟨x,H5,I5,r5,y5,st5,fr5⟩=>?_);have I5':=I5.pinned (stat fr5) (T.obj _ _ st5);refine wpAny_passesOwn hp (thn (hg _ s5 σ3 H5 x u _ I5' r5 (step x H5 y5)) λ_ s6 ⟨σ6,H6,I6,q6⟩=>?_);refine wpAny_passesOwn hp (thn (hb _ s6 σ6 H6 _ I6 q6) λf s7 q7=>?_);have again:∀{σ7:St}{H7:Hp},Inv X (pins++JK fp s5.heap) σ7 H7 s7->N σ7 H7->∃m,m<n/\∃i σ' H',Inv X pins σ' H' s7/\tn i s7.heap/\(∀b∈fp,H' b=none)/\W i m σ' H':=λ{σ7 H7} I7 n7=>by
   obtain⟨m',hm,w7⟩:=hN σ7 H7 n7;refine⟨m',hm,i+1,σ7,H7,I7.unpinned,T.keep _ _ _ st5 λb hb o e=>(I7.pin (b,o) (wQ _ (wQ _ (zw hb e)))).1,λb hb=>?_,w7⟩;obtain⟨o,e,d⟩:=T.obj _ _ st5 b hb;exact(I7.pin (b,o) (wQ _ (wQ _ (zw hb e)))).2.1
  cases f with
  |next=>obtain⟨σ7,H7,I7,n7⟩:=q7;exact again I7 n7
  |cont=>obtain⟨σ7,H7,I7,n7⟩:=q7;exact again I7 n7
  |brk=>obtain⟨σ7,H7,I7,q7⟩:=q7;exact⟨σ7,H7,I7.unpinned,q7⟩
  |ret v=>obtain⟨x7,σ7,H7,I7,r7,q7⟩:=q7;exact⟨x7,σ7,H7,I7.unpinned,r7,q7⟩
end
noncomputable abbrev R2:=V->V->Hp->VK->Prop
def OpR(X:Cx)(f:Value->Value->Sem Value)(r:R2):Prop:=
 ∀(pins:List (Addr×Obj)) (s:Shared) (σ:St) (H:Hp) (x y:V) (v u:Value) (Q:VK),Inv X pins σ H s->RelV x v->RelV y u->r x y H Q ->
  wpAny (model X.prog X.w) X.A (f v u) (EP X pins σ Q) X.xe s
def UnR(X:Cx)(f:Value->Sem Value)(r:V->Hp->VK->Prop):Prop:=
 ∀(pins:List (Addr×Obj)) (s:Shared) (σ:St) (H:Hp) (x:V) (v:Value) (Q:VK),Inv X pins σ H s->RelV x v->r x H Q ->
  wpAny (model X.prog X.w) X.A (f v) (EP X pins σ Q) X.xe s
def qj(X:Cx)(f:Value)(r:List V->Hp->VK->Prop):Prop:=
 ∀(pins:List (Addr×Obj)) (s:Shared) (σ:St) (H:Hp) (xs:List V) (us:List Value) (Q:VK),Inv X pins σ H s->Vals xs us->r xs H Q ->
  wpAny (model X.prog X.w) X.A (call f us) (EP X pins σ Q) X.xe s
noncomputable def tOp(r:R2)(ta tb:TE):TE:=λσ H Q=>ta σ H λx H1=>tb σ H1 λy H2=>r x y H2 Q
noncomputable def tUn(r:V->Hp->VK->Prop)(ta:TE):TE:=λσ H Q=>ta σ H λx H1=>r x H1 Q
noncomputable def rI(C:Int->Int->Prop)(g:Int->Int->V):R2:=λx y H Q=>∃i j,x=.int i/\y=.int j/\C i j/\Q (g i j) H
noncomputable def rI0(g:Int->Int->V):R2:=λx y H Q=>∃i j,x=.int i/\y=.int j/\Q (g i j) H
def rU(g:Int->V):V->Hp->VK->Prop:=λx H Q=>∃i,x=.int i/\Q (g i) H
section
variable{X:Cx}{a b c:Expr}{ta tb tc:TE}{pos:Pos}
theorem qc(ha:PE X a ta)(hb:PE X b tb){pins:List (Addr×Obj)}{s:Shared}{σ:St}{H:Hp}{R:V->V->Hp->Prop}(I:Inv X pins σ H s)
  (h:ta σ H λx H1=>tb σ H1 λy H2=>R x y H2){Q:Value->Shared->Prop}{f:Value->Value->Sem Value}
  (hf:∀v u s2 x y H2,Inv X pins σ H2 s2->RelV x v->RelV y u->R x y H2->wpAny (model X.prog X.w) X.A (f v u) Q X.xe s2):
  wpAny (model X.prog X.w) X.A (eval a X.env) (λv s₁=>wpAny (model X.prog X.w) X.A (eval b X.env) (λu s₂=>wpAny (model X.prog X.w) X.A (f v u) Q X.xe s₂) X.xe s₁) X.xe s:=by
 refine thn (ha pins s σ H _ I h) λv s1 ⟨x,H1,I1,r1,q1⟩=>?_;refine thn (hb pins s1 σ H1 _ I1 q1) λu s2 ⟨y,H2,I2,r2,q2⟩=>?_;exact hf v u s2 x y H2 I2 r1 r2 q2
theorem pe_op{op:Operator}{r:R2}(ho:OpR X (binaryOp op) r)(ha:PE X a ta)(hb:PE X b tb):PE X (.BinOp a op b pos) (tOp r ta tb):=by
 intro pins s σ H Q I h;exact wpAny_BinOp (qc ha hb I h λv u s2 x y H2 I2 rx ry q=>ho pins s2 σ H2 x y v u Q I2 rx ry q)
theorem pe_un{op:UnaryOp}{r:V->Hp->VK->Prop}(ho:UnR X (unaryOp op) r)(ha:PE X a ta):PE X (.UnaryOp op a pos) (tUn r ta):=by
 intro pins s σ H Q I h;exact UnaryOp_ (thn (ha pins s σ H _ I h) λv s1 ⟨x,H1,I1,r1,q1⟩=>ho pins s1 σ H1 x v Q I1 r1 q1)
theorem opI{f:Value->Value->Sem Value}{C:Int->Int->Prop}{g:Int->Int->Int}
  (rule:∀(i j:Int) (t u:Tok) (s:Shared) (Q:Value->Shared->Prop) (E:Value->Shared->Prop),C i j->Q (.int (g i j) s.toks) { s with toks:=s.toks+1 }->wpAny (model X.prog X.w) X.A (f (.int i t) (.int j u)) Q E s):
  OpR X f (rI C λi j=>.int (g i j)):=by
 intro pins s σ H x y v u Q I rx ry h;obtain⟨i,j,rfl,rfl,hc,q⟩:=h;obtain⟨t,rfl⟩:=rx;obtain⟨t',rfl⟩:=ry;exact rule i j t t' s _ _ hc ⟨.int (g i j),H,I.tok _,⟨_,rfl⟩,q⟩
theorem qEH{f:Value->Value->Sem Value}{g:Int->Int->Int}
  (rule:∀(i j:Int) (t u:Tok) (s:Shared) (Q:Value->Shared->Prop) (E:Value->Shared->Prop),Q (.int (g i j) s.toks) { s with toks:=s.toks+1 }->wpAny (model X.prog X.w) X.A (f (.int i t) (.int j u)) Q E s):
  OpR X f (rI0 λi j=>.int (g i j)):=by
 intro pins s σ H x y v u Q I rx ry h;obtain⟨i,j,rfl,rfl,q⟩:=h;obtain⟨t,rfl⟩:=rx;obtain⟨t',rfl⟩:=ry;exact rule i j t t' s _ _ ⟨.int (g i j),H,I.tok _,⟨_,rfl⟩,q⟩
theorem qDO{f:Value->Value->Sem Value}{g:Int->Int->Bool}
  (rule:∀(i j:Int) (t u:Tok) (s:Shared) (Q:Value->Shared->Prop) (E:Value->Shared->Prop),Q (.bool (g i j)) s->wpAny (model X.prog X.w) X.A (f (.int i t) (.int j u)) Q E s):
  OpR X f (rI0 λi j=>.bl (g i j)):=by
 intro pins s σ H x y v u Q I rx ry h;obtain⟨i,j,rfl,rfl,q⟩:=h;obtain⟨t,rfl⟩:=rx;obtain⟨t',rfl⟩:=ry;exact rule i j t t' s _ _ ⟨.bl (g i j),H,I,rfl,q⟩
def CDiv(i j:Int):Prop:=0<j/\j<1073741824
def CPow(i j:Int):Prop:=0<=j/\j<=1000000/\i.natAbs<2 ^ 64
def CMul(i j:Int):Prop:=(-(2 ^ 64)<i/\i<2 ^ 64)\/(-(2 ^ 64)<j/\j<2 ^ 64)
theorem CMul.ok{i j:Int}(h:CMul i j):IntMulOk i j:=by
 rcases h with⟨h1,h2⟩|⟨h1,h2⟩
 ·exact .of_left (intBits_le_64 h1 h2)
 ·exact .of_right (intBits_le_64 h1 h2)
theorem op_add:OpR X (binaryOp .Add) (rI0 λi j=>.int (i+j)):=qEH λ_ _ _ _ _ _ _ q=>add_int q
theorem op_sub:OpR X (binaryOp .Sub) (rI0 λi j=>.int (i-j)):=qEH λ_ _ _ _ _ _ _ q=>sub_int q
theorem op_mul:OpR X (binaryOp .Mult) (rI CMul λi j=>.int (i*j)):=opI λ_ _ _ _ _ _ _ hc q=>mul_int q hc.ok
theorem op_fdiv:OpR X (binaryOp .FloorDiv) (rI CDiv λi j=>.int (i / j)):=opI λi j _ _ _ _ _ hc q=>by
 have h1:(0:Int)<j:=hc.1;have h2:j<1073741824:=hc.2;exact floordiv_int (by omega) (by rw[Int.fdiv_eq_ediv_of_nonneg i (by omega)];exact q) (.inl (PyProof.noPylong_small (by omega)))
theorem op_mod:OpR X (binaryOp .Mod) (rI (λ_ j=>0<j) λi j=>.int (i % j)):=opI λi j _ _ _ _ _ hc q=>by
 have h1:(0:Int)<j:=hc;exact mod_int' (by omega) (by rw[Int.fmod_eq_emod_of_nonneg i (by omega)];exact q)
theorem op_modN:OpR X (binaryOp .Mod) (rI (λ_ j=>j≠0) λi j=>.int (i.fmod j)):=opI λ_ _ _ _ _ _ _ hc q=>mod_int' hc q
theorem op_pow:OpR X (binaryOp .Pow) (rI CPow λi j=>.int (i ^ j.toNat)):=opI λ_ _ _ _ _ _ _ hc q=>pow_int_small hc.1 hc.2.1 hc.2.2 q
theorem op_shl:OpR X (binaryOp .LShift) (rI CPow λi j=>.int (i*2 ^ j.toNat)):=opI λ_ _ _ _ _ _ _ hc q=>lshift_int_small hc.1 hc.2.1 hc.2.2 q
theorem op_and:OpR X (binaryOp .BitAnd) (rI0 λi j=>.int (Builtin.bitAnd i j)):=qEH λ_ _ _ _ _ _ _ q=>and_int q
theorem unI{f:Value->Sem Value}{g:Int->Int}
  (rule:∀(i:Int) (t:Tok) (s:Shared) (Q:Value->Shared->Prop) (E:Value->Shared->Prop),Q (.int (g i) s.toks) { s with toks:=s.toks+1 }->wpAny (model X.prog X.w) X.A (f (.int i t)) Q E s):
  UnR X f (rU λi=>.int (g i)):=by
 intro pins s σ H x v Q I rx h;obtain⟨i,rfl,q⟩:=h;obtain⟨t,rfl⟩:=rx;exact rule i t s _ _ ⟨.int (g i),H,I.tok _,⟨_,rfl⟩,q⟩
theorem un_neg:UnR X (unaryOp .USub) (rU λi=>.int (-i)):=unI λ_ _ _ _ _ q=>neg_int q
end
section
variable{X:Cx}{a b c:Expr}{ta tb tc:TE}{pos:Pos}
theorem l0{pins:List (Addr×Obj)}{σ:St}{H:Hp}{s:Shared}{Q:VK}{k k':Bool}(I:Inv X pins σ H s)(q:Q (.bl k) H)(e:k=k'):EP X pins σ Q (.bool k') s:=by
 subst e;exact⟨.bl k,H,I,rfl,q⟩
theorem op_lt:OpR X (compareOp .Lt) (rI0 λi j=>.bl (decide (i<j))):=qDO λ_ _ _ _ _ _ _ q=>lt_int q
theorem op_le:OpR X (compareOp .LtE) (rI0 λi j=>.bl (decide (i<=j))):=qDO λ_ _ _ _ _ _ _ q=>le_int q
theorem op_gt:OpR X (compareOp .Gt) (rI0 λi j=>.bl (decide (j<i))):=qDO λ_ _ _ _ _ _ _ q=>gt_int q
theorem op_ge:OpR X (compareOp .GtE) (rI0 λi j=>.bl (decide (j<=i))):=qDO λ_ _ _ _ _ _ _ q=>ge_int q
theorem op_isN:OpR X (compareOp .Is) (λx y H Q=>y=.non/\Q (.bl (decide (x=.non))) H):=by
 intro pins s σ H x y v u Q I rx ry h;obtain⟨rfl,q⟩:=h;cases ry;refine is_none_gen (l0 I q ?_);cases x<;>first
  | (cases rx;rfl)
  | (obtain⟨t,rfl⟩:=rx;rfl)
theorem op_notN:OpR X (compareOp .IsNot) (λx y H Q=>y=.non/\Q (.bl (!decide (x=.non))) H):=by
 intro pins s σ H x y v u Q I rx ry h;obtain⟨rfl,q⟩:=h;cases ry;refine isnot_none_gen (l0 I q ?_);cases x<;>first
  | (cases rx;rfl)
  | (obtain⟨t,rfl⟩:=rx;rfl)
theorem OpR.or{f:Value->Value->Sem Value}{r r':R2}(h:OpR X f r)(h':OpR X f r'):OpR X f (λx y H Q=>r x y H Q\/r' x y H Q):=by
 intro pins s σ H x y v u Q I rx ry q;rcases q with q|q
 ·exact h pins s σ H x y v u Q I rx ry q
 ·exact h' pins s σ H x y v u Q I rx ry q
theorem pe_cmpR{op:CmpOp}{r:R2}(ho:OpR X (compareOp op) r)(ha:PE X a ta)(hb:PE X b tb)(hm:behindInMarks op b=false):PE X (.Compare a [op] [b] pos) (tOp r ta tb):=by
 intro pins s σ H Q I h;exact wpAny_Compare1 (qc ha hb I h λv u s2 x y H2 I2 rx ry q=>ho pins s2 σ H2 x y v u Q I2 rx ry q) hm
noncomputable def qBP(t:TE):TT:=λσ H Q=>t σ H λx H'=>∃k,x=.bl k/\Q k H'
theorem pt_cmpR{op:CmpOp}{r:R2}(ho:OpR X (compareOp op) r)(ha:PE X a ta)(hb:PE X b tb)(hm:behindInMarks op b=false):PT X (.Compare a [op] [b] pos) (qBP (tOp r ta tb)):=by
 intro pins s σ H Q I h;refine wpAny_isTrue_Compare1 (thn (ha pins s σ H _ I h) λv s1 ⟨x,H1,I1,r1,q1⟩=>thn (hb pins s1 σ H1 _ I1 q1) λu s2 ⟨y,H2,I2,r2,q2⟩=>
  thn (ho pins s2 σ H2 x y v u _ I2 r1 r2 q2) λc s3 ⟨z,H3,I3,r3,k,e,q3⟩=>?_) hm
 subst e;cases r3;exact vo ⟨H3,I3,q3⟩
noncomputable def tChain(r r':R2)(ta tb tc:TE):TE:=λσ H Q=>ta σ H λx H1=>tb σ H1 λy H2=>r x y H2 λz H3=>∃k,z=.bl k/\
 (if k=true then tc σ H3 λw' H4=>r' y w' H4 Q else Q (.bl false) H3)
theorem pe_chain{op op':CmpOp}{r r':R2}(ho:OpR X (compareOp op) r)(ho':OpR X (compareOp op') r')(ha:PE X a ta)(hb:PE X b tb)(hc:PE X c tc)
  (hm:lastMarks [op,op'] [b,c]=false:=by with_unfolding_all rfl):PE X (.Compare a [op,op'] [b,c] pos) (tChain r r' ta tb tc):=by
 intro pins s σ H Q I h;refine Compare_chain (thn (ha pins s σ H _ I h) λv s1 ⟨x,H1,I1,r1,q1⟩=>chain_link (thn (hb pins s1 σ H1 _ I1 q1) λu s2 ⟨y,H2,I2,r2,q2⟩=>
  thn (ho pins s2 σ H2 x y v u _ I2 r1 r2 q2) λd s3 ⟨z,H3,I3,r3,k,e,q3⟩=>?_)) hm
 subst e;cases r3;refine vo ?_;cases k with
 |false=>exact ite_ff ⟨.bl false,H3,I3,rfl,q3⟩
 |true=>exact ite_tt (chain_last (thn (hc pins s3 σ H3 _ I3 q3) λw' s4 ⟨z',H4,I4,r4,q4⟩=>ho' pins s4 σ H4 y z' u w' Q I4 r2 r4 q4))
theorem pt_chain{op op':CmpOp}{r r':R2}(ho:OpR X (compareOp op) r)(ho':OpR X (compareOp op') r')(ha:PE X a ta)(hb:PE X b tb)(hc:PE X c tc)
  (hm:lastMarks [op,op'] [b,c]=false:=by with_unfolding_all rfl):PT X (.Compare a [op,op'] [b,c] pos) (qBP (tChain r r' ta tb tc)):=by
 intro pins s σ H Q I h;refine isTrue_chain (thn (ha pins s σ H _ I h) λv s1 ⟨x,H1,I1,r1,q1⟩=>test_link (thn (hb pins s1 σ H1 _ I1 q1) λu s2 ⟨y,H2,I2,r2,q2⟩=>
  thn (ho pins s2 σ H2 x y v u _ I2 r1 r2 q2) λd s3 ⟨z,H3,I3,r3,k,e,q3⟩=>?_)) hm
 subst e;cases r3;refine vo ?_;cases k with
 |false=>
  obtain⟨k',e',q'⟩:=q3;cases e';exact ite_ff ⟨H3,I3,q'⟩
 |true=>
  refine ite_tt (test_last (thn (hc pins s3 σ H3 _ I3 q3) λw' s4 ⟨z',H4,I4,r4,q4⟩=>thn (ho' pins s4 σ H4 y z' u w' _ I4 r2 r4 q4) λd' s5 ⟨z2,H5,I5,r5,k2,e2,q5⟩=>?_));subst e2;cases r5;exact vo ⟨H5,I5,q5⟩
theorem line63:(sizeLine:Nat)<2 ^ 63:=by rw[sizeLine_eq];decide
theorem vals1{x:V}{us:List Value}(r:Vals [x] us):∃u,us=[u]/\RelV x u:=by
 cases r with
 |cons r1 r2=>cases r2;exact⟨_,rfl,r1⟩
theorem vals2{x y:V}{us:List Value}(r:Vals [x,y] us):∃u w',us=[u,w']/\RelV x u/\RelV y w':=by
 cases r with
 |cons r1 r2=>
  cases r2 with
  |cons r3 r4=>cases r4;exact⟨_,_,rfl,r1,r3⟩
theorem call_max2(hc:X.calm=true):qj X (.builtin "max") (λxs H Q=>∃i j,xs=[.int i,.int j]/\Q (.int (if j>i then j else i)) H):=by
 intro pins s σ H xs us Q I r h;obtain⟨i,j,rfl,q⟩:=h;obtain⟨u,w',rfl,⟨t,rfl⟩,⟨t',rfl⟩⟩:=vals2 r;refine max_two_ints (I.ok.hd hc) λh' tk k=>⟨_,H,I.kept k,?_,q⟩
 by_cases hj:j>i
 ·rw[if_pos hj,if_pos hj];exact⟨_,rfl⟩
 ·rw[if_neg hj,if_neg hj];exact⟨_,rfl⟩
theorem call_min2(hc:X.calm=true):qj X (.builtin "min") (λxs H Q=>∃i j,xs=[.int i,.int j]/\Q (.int (if j<i then j else i)) H):=by
 intro pins s σ H xs us Q I r h;obtain⟨i,j,rfl,q⟩:=h;obtain⟨u,w',rfl,⟨t,rfl⟩,⟨t',rfl⟩⟩:=vals2 r;refine min_two_ints (I.ok.hd hc) λh' tk k=>⟨_,H,I.kept k,?_,q⟩
 by_cases hj:j<i
 ·rw[if_pos hj,if_pos hj];exact⟨_,rfl⟩
 ·rw[if_neg hj,if_neg hj];exact⟨_,rfl⟩
theorem call_int1:qj X (.type "int") (λxs H Q=>(∃i,xs=[.int i]/\Q (.int i) H)\/∃k,xs=[.bl k]/\Q (.int (if k then 1 else 0)) H):=by
 intro pins s σ H xs us Q I r h;rcases h with⟨i,rfl,q⟩|⟨k,rfl,q⟩
 ·obtain⟨u,rfl,t,rfl⟩:=vals1 r;exact call_int_int ⟨.int i,H,I,⟨_,rfl⟩,q⟩
 ·obtain⟨u,rfl,r1⟩:=vals1 r;cases r1;exact call_int_bool ⟨.int (if k then 1 else 0),H,I.tok _,⟨_,rfl⟩,q⟩
end
structure Room(k:Nat)(A:Around):Prop where
 hd:A.handled=none
 dp:A.depth+3*k+5<recursionLimit
 un:A.units+16*k+200<cLine
 gd:A.guards=some []
theorem Room.mono{j k:Nat}{A:Around}(r:Room k A)(h:j<=k):Room j A:=⟨r.hd,by have:=r.dp;omega,by have:=r.un;omega,r.gd⟩
theorem Room.deeper{k:Nat}{A:Around}(r:Room (k+1) A)(env:Env):Room k (A.deeper env):=
 ⟨r.hd,by have:=r.dp;show A.depth+1+3*k+5<_;omega,by have:=r.un;show A.units+3+16*k+200<_;omega,r.gd⟩
theorem Room.in1{k:Nat}{A:Around}(r:Room (k+1) A):Room k A.in1:=
 ⟨r.hd,by have:=r.dp;show A.depth+3*k+5<_;omega,by have:=r.un;show A.units+1+16*k+200<_;omega,r.gd⟩
theorem Room.depth{k:Nat}{A:Around}(r:Room k A):A.depth<recursionLimit:=by have:=r.dp;omega
theorem Room.units{k:Nat}{A:Around}(r:Room k A):A.units+64<cLine:=by have:=r.un;omega
noncomputable def qFT:TA:=λ_ H Q=>Q [] H
noncomputable def qDV(ta:TE)(tr:TA):TA:=λσ H Q=>ta σ H λx H1=>tr σ H1 λxs H2=>Q (x::xs) H2
section
variable{X:Cx}{e:Expr}{es:List Expr}{te:TE}{t:TA}{pos:Pos}
theorem pa_nil:PA X [] qFT:=λ_ _ _ _ H Q I h=>Calls.spliced_nil ⟨[],H,I,.nil,h⟩
theorem pa_cons(ha:PE X e te)(hr:PA X es t)(hs:starEach (e::es) X.env=(false,eval e X.env)::starEach es X.env:=by rfl):PA X (e::es) (qDV te t):=by
 intro pos pins s σ H Q I h;rw[hs];show wpAny _ _ (spliced ((false,eval e X.env)::backTo pos (starEach es X.env))) _ _ s;refine Calls.spliced_cons (thn (ha pins s σ H _ I h) λu s1 ⟨x,H1,I1,r1,q1⟩=>?_);exact thn (hr pos pins s1 σ H1 _ I1 q1) λus s2 ⟨xs,H2,I2,r2,q2⟩=>⟨x::xs,H2,I2,.cons r1 r2,q2⟩
noncomputable def qF1(t:TA):TE:=λσ H Q=>t σ H λxs H1=>xs.length<=sizeLine/\∀p,H1 p=none->Q (.ref p) (upd H1 p (.tup xs))
noncomputable def qF3(t:TA):TE:=λσ H Q=>t σ H λxs H1=>xs.length<=sizeLine/\∀p,H1 p=none->Q (.ref p) (upd H1 p (.lst xs))
theorem pe_tup {x1}(h:PA X es t):PE X (.Tuple es x1 pos) (qF1 t):=by
 intro pins s σ H Q I hq;refine wpAny_Tuple_spliced (thn (h pos pins s σ H _ I hq) λus s1 ⟨xs,H1,I1,r,z,q⟩=>⟨by rw[<-r.length];exact z,?_⟩);have hf:H1 s1.heap.objs.size=none:=I1.hok.fresh (wF _);refine⟨.ref s1.heap.objs.size,upd H1 s1.heap.objs.size (.tup xs),I1.laid (t':=s1.toks) (λb u e=>Heap.get?_push_of_some _ e) (wF _) ?_,rfl,q _ hf⟩;exact⟨z,us,r,⟨_,Heap.get?_push_size _ rfl,rfl,_,rfl⟩⟩
theorem pe_lst(h:PA X es t):PE X (.List es pos) (qF3 t):=by
 intro pins s σ H Q I hq;refine wpAny_List_spliced (thn (h pos pins s σ H _ I hq) λus s1 ⟨xs,H1,I1,r,z,q⟩=>⟨by rw[<-r.length];exact z,?_⟩);have hf:H1 s1.heap.objs.size=none:=I1.hok.fresh (wF _);refine⟨.ref s1.heap.objs.size,upd H1 s1.heap.objs.size (.lst xs),I1.laid (t':=s1.toks) (λb u e=>Heap.get?_push_of_some _ e) (wF _) ?_,rfl,q _ hf⟩;exact⟨z,us,0,r,Heap.get?_push_size _ rfl⟩
end
noncomputable abbrev Sp:=List V->Hp->VK->XK->Prop
noncomputable abbrev CXT:=List Env->Hp->Shared->XK->Value->Shared->Prop
structure Env0(P:Program)(w:World)(K:PySem.W.Frag)(mg:Str->Option Value)(base:Heap)(A:Around)(outer:List Env)(s:Shared)(H:Hp):Prop where
 frames:A.frames=some outer
 mod:Mod K mg base
 bs:∀b o,base.get? b=some o->s.heap.get? b=some o/\H b=none
 bsz:base.objs.size<=s.heap.objs.size
 funs:s.heap.FunFrames base outer
 frf:∀b∈frs outer,H b=none
 hok:HOk P w H s.heap
 bare:AllBare s.gens
def CE(outer:List Env)(P:Program)(w:World)(H:Hp)(s:Shared)(Q:VK)(u:Value)(s':Shared):Prop:=
 ∃v H',s'.os=s.os/\AllBare s'.gens/\Un (frs outer) [] H H' s.heap s'.heap/\HOk P w H' s'.heap/\RelV v u/\Q v H'
def CR(CX:CXT)(outer:List Env)(P:Program)(w:World)(H:Hp)(s:Shared)(Q:VK)(E:XK)(r:Result)(s':Shared):Prop:=
 match r with
 | .ok (.ret u)=>CE outer P w H s Q u s'
 | .ok _=>False
 | .error e=>CX outer H s E e s'
structure FnOk(P:Program)(w:World)(K:PySem.W.Frag)(mg:Str->Option Value)(base:Heap)(CX:CXT)(k:Nat)(f:Addr)(fd:FuncData)(ps:List Str)(sp:Sp):Prop where
 len:∀vs H Q E,sp vs H Q E->vs.length=ps.length
 run:∀(A:Around) (outer:List Env) (s:Shared) (H:Hp) (args:Args) (us:List Value) (vs:List V) (Q:VK) (E:XK),Room k A->Env0 P w K mg base A outer s H->BindsTo s fd args (ps.zip us)->Vals vs us->sp vs H Q E ->
  codeAny (model P w) A (.call (.ref f) args) (CR CX outer P w H s Q E) s
theorem Env0.in1{P:Program}{w:World}{K:PySem.W.Frag}{mg:Str->Option Value}{base:Heap}{A:Around}{outer:List Env}{s:Shared}{H:Hp}(e:Env0 P w K mg base A outer s H):
  Env0 P w K mg base A.in1 outer s H:=⟨e.frames,e.mod,e.bs,e.bsz,e.funs,e.frf,e.hok,e.bare⟩
section
variable{X:Cx}{pins:List (Addr×Obj)}{σ:St}{H:Hp}{s s':Shared}
theorem Inv.env0(I:Inv X pins σ H s):Env0 X.prog X.w X.K X.mg X.base X.A X.stack s H:=
 ⟨I.ok.frames,I.ok.mod,I.bs,wM I.ok.bsz I.sz,I.stack,I.stkFree,I.hok,I.bare⟩
theorem Inv.after{Q:VK}{u:Value}(I:Inv X pins σ H s)(h:CE X.stack X.prog X.w H s Q u s'):EP X pins σ Q u s':=by
 obtain⟨v,H',os,bare,un,hok,r,q⟩:=h;obtain⟨hh,g,d,t,os'⟩:=s';obtain rfl:os'=s.os:=os;exact⟨v,H',I.call (h':=hh) (g':=g) (d':=d) (t':=t) (ch:=[]) un hok bare (λb z=>absurd z (by simp)),r,q⟩
end
noncomputable def tCall(sp:Sp)(dvs:List V)(E:XK)(t:TA):TE:=λσ H Q=>t σ H λvs H1=>sp (vs++dvs) H1 Q E
def Binds(K:PySem.W.Frag)(fd:FuncData)(ps:List Str)(ds:List Value):Prop:=
 ∀(s:Shared) (us:List Value),K.In s.heap->(us++ds).length=ps.length->BindsTo s fd ⟨us,[]⟩ (ps.zip (us++ds))
theorem Binds.all{K:PySem.W.Frag}{fd:FuncData}{ps:List Str}(h:∀us:List Value,us.length=ps.length->bindArgs fd ⟨us,[]⟩=pure (ps.zip us)):Binds K fd ps []:=λs us _ hl=>by
 rw[wV]at hl ⊢;exact .of_eq (h us hl)
def F6(CX:CXT)(X:Cx)(E:XK):Prop:=∀(pins:List (Addr×Obj)) (σ:St) (H:Hp) (s:Shared) (e:Value) (s':Shared),Inv X pins σ H s->CX X.stack H s E e s'->X.xe e s'
section
variable{X:Cx}{CX:CXT}{k:Nat}{f C:Addr}{fd:FuncData}{ps:List Str}{sp:Sp}{dvs:List V}{ds:List Value}{E:XK}{x m:Str}{p pos apos:Pos}{e o:Expr}{es:List Expr}{ta:TE}{t:TA}
theorem w6{pins:List (Addr×Obj)}{σ:St}{H:Hp}{s:Shared}{Q:VK}{us:List Value}{vs:List V}(F:FnOk X.prog X.w X.K X.mg X.base CX k f fd ps sp)(hr:Room k X.A)(hb:Binds X.K fd ps ds)(hd:Vals dvs ds)(hx:F6 CX X E)
  (I:Inv X pins σ H s) (r:Vals vs us) (h:sp (vs++dvs) H Q E):wpAny (model X.prog X.w) X.A (call (.ref f) us) (EP X pins σ Q) X.xe s:=by
 have r2:Vals (vs++dvs) (us++ds):=r.append hd;have hl:(us++ds).length=ps.length:=by rw[<-r2.length];exact F.len _ _ _ _ h
 refine wpAny_call (codeAny_mono (F.run X.A X.stack s H ⟨us,[]⟩ (us++ds) (vs++dvs) Q E hr I.env0 (hb s us I.kIn hl) r2 h) λr s' hq=>?_);cases r with
 |error e=>exact hx pins σ H s e s' I hq
 |ok fl=>
  cases fl with
  |ret u=>exact I.after hq
  |next=>exact False.elim hq
  |brk=>exact False.elim hq
  |cont=>exact False.elim hq
theorem pe_call(F:FnOk X.prog X.w X.K X.mg X.base CX k f fd ps sp)(hr:Room k X.A)(hg:Gl X x)(hm:X.mg x=some (.ref f))(hk:PySem.W.keepIn X.K (.ref f)=true)(hb:Binds X.K fd ps ds)(hd:Vals dvs ds)(hx:F6 CX X E)
  (ha:PA X (e::es) t) (hdb:(x==("__debug__":Str))=false:=by decide) (he:starEach (e::es) X.env=(false,eval e X.env)::starEach es X.env:=by rfl) (hpl:(backTo pos (starEach es X.env)).any (·.1)=false:=by rfl):
  PE X (.Call (.Name x p) (e::es) [] pos) (tCall sp dvs E t):=by
 intro pins s σ H Q I h;refine wpAny_Call_Name_kw (A2 I hg hm ?_ hdb);refine PySem.W.callWith_K (h₀:=X.base) I.ok.mod.kin hk (thn (ha pos pins s σ H _ I h) λus s1 ⟨vs,H1,I1,r,q⟩=>⟨I1.kIn,?_⟩) he hpl;exact w6 F hr hb hd hx I1 r q
theorem pe_call0(F:FnOk X.prog X.w X.K X.mg X.base CX k f fd ps sp)(hr:Room k X.A)(hg:Gl X x)(hm:X.mg x=some (.ref f))(hk:PySem.W.keepIn X.K (.ref f)=true)(hb:Binds X.K fd ps ds)(hd:Vals dvs ds)(hx:F6 CX X E)
  (hdb:(x==("__debug__":Str))=false:=by decide):PE X (.Call (.Name x p) [] [] pos) (tCall sp dvs E qFT):=by
 intro pins s σ H Q I h;refine wpAny_Call_Name_kw (A2 I hg hm ?_ hdb);exact PySem.W.callWith_K0 I.kIn hk (w6 (us:=[]) F hr hb hd hx I .nil h)
end
structure zN(N P:List Str)(sc:Scope):Prop where
 kind:sc.kind=.function
 co:sc.isCoroutine=false
 gen:sc.isGenerator=false
 nd:N.Nodup
 pre:N.take P.length=P
 par:∀x∈P,sc.names.lookup x=some .local\/sc.names.lookup x=some .cell
 nofree:∀y∈sc.names,y.2≠.free
theorem JZ{kindOf:Str->Option NameKind}{x:Str}:∀{binds:List (Str×Value)}{m:Str->Option Value},(∀v,(x,v)∉binds)->bindL kindOf binds m x=m x
 | [],_,_=>rfl
 | (n,v)::r,m,h=>by
  unfold bindL;rw[JZ λw hw=>h w (wN _ hw)];split
  ·have:x≠n:=by rintro rfl;exact h v wP
   simp[this]
  ·rfl
theorem JM{kindOf:Str->Option NameKind}{x:Str}:∀{binds:List (Str×Value)}{m:Str->Option Value},(∀v,(x,v)∉binds)->bindC kindOf binds m x=m x
 | [],_,_=>rfl
 | (n,v)::r,m,h=>by
  unfold bindC;rw[JM λw hw=>h w (wN _ hw)];split
  ·rfl
  ·have:x≠n:=by rintro rfl;exact h v wP
   simp[this]
theorem JU{kindOf:Str->Option NameKind}{x:Str}{v:Value}:∀{P:List Str}{vs:List Value}{i:Nat}{m:Str->Option Value},P.Nodup->P[i]?=some x->vs[i]?=some v->kindOf x=some .local ->
  bindL kindOf (P.zip vs) m x=some v
 | [],_,_,_,_,h,_,_=>by simp at h
 |_::_,[],_,_,_,_,h,_=>by simp at h
 |p::P,w::vs,0,m,nd,h1,h2,hk=>by
  simp at h1 h2;subst h1;subst h2;show bindL kindOf ((p,w)::P.zip vs) m p=_;unfold bindL;rw[JZ λv hv=>(vV.mp nd).1 (List.of_mem_zip hv).1,if_pos hk];simp
 |p::P,w::vs,i+1,m,nd,h1,h2,hk=>by
  show bindL kindOf ((p,w)::P.zip vs) m x=_;unfold bindL;exact JU (i:=i) (vV.mp nd).2 (by simpa using h1) (by simpa using h2) hk
theorem JH{kindOf:Str->Option NameKind}{x:Str}{v:Value}:∀{P:List Str}{vs:List Value}{i:Nat}{m:Str->Option Value},P.Nodup->P[i]?=some x->vs[i]?=some v->kindOf x≠some .local ->
  bindC kindOf (P.zip vs) m x=some v
 | [],_,_,_,_,h,_,_=>by simp at h
 |_::_,[],_,_,_,_,h,_=>by simp at h
 |p::P,w::vs,0,m,nd,h1,h2,hk=>by
  simp at h1 h2;subst h1;subst h2;show bindC kindOf ((p,w)::P.zip vs) m p=_;unfold bindC;rw[JM λv hv=>(vV.mp nd).1 (List.of_mem_zip hv).1,if_neg hk];simp
 |p::P,w::vs,i+1,m,nd,h1,h2,hk=>by
  show bindC kindOf ((p,w)::P.zip vs) m x=_;unfold bindC;exact JH (i:=i) (vV.mp nd).2 (by simpa using h1) (by simpa using h2) hk
noncomputable def start(N:List Str)(vs:List V):St:=vs.map some++List.replicate (N.length-vs.length) none
noncomputable def cxOf(CX:CXT)(P:Program)(w:World)(K:PySem.W.Frag)(mg:Str->Option Value)(base:Heap)(N:List Str)(qual:Str)(scope:Scope)(f:Addr)(cd:Value)(A:Around)(outer:List Env)(s:Shared)(H:Hp)(E:XK):Cx where
 prog:=P
 w:=w
 K:=K
 mg:=mg
 base:=base
 A:=A.deeper (envOfC qual scope s.heap.objs.size f cd)
 N:=N
 s₀:=s
 H₀:=H
 env:=envOfC qual scope s.heap.objs.size f cd
 outer:=outer
 stack:=envOfC qual scope s.heap.objs.size f cd::outer
 ex:=[]
 calm:=true
 fn:=λ_=>true
 pn:=[]
 xe:=λe s'=>wpAny (model P w) (A.deeper (envOfC qual scope s.heap.objs.size f cd)) (leaving (envOfC qual scope s.heap.objs.size f cd) e) (λ_ s''=>CX outer H s E e s'') (λe' s''=>CX outer H s E e' s'') s'
theorem G6{sc:Scope}{n:Nat}{x:Str}(h:sc.names.lookup x=some .cell):∃c,(cellsFrom n sc.names []).lookup x=some c:=by
 have q:=PySem.W.cellsFrom_some sc.names n [] (.inl h);exact Option.isSome_iff_exists.mp q
theorem T0{CX:CXT}{P:Program}{w:World}{K:PySem.W.Frag}{mg:Str->Option Value}{base:Heap}{N ps:List Str}{qual:Str}{scope:Scope}{f:Addr}{cd:Value}{A:Around}{outer:List Env}{s s1:Shared}{H:Hp}{E:XK}{us:List Value}{vs:List V}
  (S:zN N ps scope) (hd:A.handled=none) (e0:Env0 P w K mg base A outer s H) (hl:vs.length=ps.length) (r:Vals vs us)
  (x:InCallC s s.heap.objs.size (bindL (envOfC qual scope s.heap.objs.size f cd).kindOf (ps.zip us) λ_=>none) (cellsFrom (s.heap.objs.size+1) scope.names []) (bindC (envOfC qual scope s.heap.objs.size f cd).kindOf (ps.zip us) λ_=>none) s1):
  Inv (cxOf CX P w K mg base N qual scope f cd A outer s H E) [] (start N vs) H s1:=by
 have hpl:ps.length<=N.length:=by have:=congrArg List.length S.pre;rw[vQ]at this;omega
 obtain⟨h1,tk,rfl,hk⟩:=x.done;have noA:∀b:Addr,b∉(cxOf CX P w K mg base N qual scope f cd A outer s H E).ex:=λb z=>absurd (show b∈([]:List Addr) from z) (by simp);refine⟨⟨e0.mod,S.kind,rfl,rfl,wF _,λy z c h1 h2=>?_,λy hy=>?_,λy c _ h=>?_,λ_=>hd,Around.frames_deeper e0.frames,.inr ⟨rfl,rfl⟩,λb z=>absurd z (noA b),e0.bs,e0.bsz,λb _ _=>noA b,λb z=>absurd z (noA b),e0.funs,e0.frf⟩,
  rfl,e0.bare,Un.kept hk,⟨_,x.toInCall.ns,λi y v h1 h2 h3=>?_⟩,λy c h=>⟨_,x.cell y c h⟩,e0.hok.fresh (wF _),λy c h=>?_,λp hp=>absurd (show p∈([]:List (Addr×Obj)) from hp) (by simp),e0.hok.kept hk,?_⟩
 ·exact name_of_addr x.apart (PySem.mem_of_lookup h1) (PySem.mem_of_lookup h2)
 ·have hy:scope.names.lookup y=some .cell\/scope.names.lookup y=some .free:=hy;rcases hy with hy|hy
  ·exact G6 hy
  ·exact absurd rfl (S.nofree _ (PySem.mem_of_lookup hy))
 ·exact wo (x.above y c (PySem.mem_of_lookup h))
 ·have hi:i<vs.length:=by
   unfold start at h2;by_cases hi:i<vs.length
   ·exact hi
   ·rw[wS (by simpa using hi)]at h2;rw[List.getElem?_replicate]at h2;split at h2<;>cases h2
  have ha:vs[i]?=some v:=by
   unfold start at h2;rw[wD (by simpa using hi),we]at h2;cases e:vs[i]? with
   |none=>rw[e]at h2;cases h2
   |some a=>rw[e]at h2;cases h2;rfl
  obtain⟨u,hu,rv⟩:=r.get ha;have hp:ps[i]?=some y:=by
   rw[<-S.pre,vH (by omega)];exact h1
  have ndP:ps.Nodup:=by rw[<-S.pre];exact S.nd.sublist (List.take_sublist _ _)
  refine⟨u,rv,?_⟩;rcases S.par y (wW hp) with k|k
  ·exact .inl ⟨k,JU ndP hp hu k⟩
  ·obtain⟨c,e⟩:=G6 (n:=s.heap.objs.size+1) k;refine .inr ⟨.inl k,c,e,?_⟩;have q:=x.cell y c e;rw[JH ndP hp hu (by show scope.names.lookup y≠_;rw[k];decide)]at q;exact q
 ·exact e0.hok.fresh (wo (x.above y c (PySem.mem_of_lookup h)))
 ·unfold start;show _=N.length;rw[wX,wG,List.length_replicate];omega
theorem qED{CX:CXT}{P:Program}{w:World}{K:PySem.W.Frag}{mg:Str->Option Value}{base:Heap}{k:Nat}{f:Addr}{name qual:Str}{params:Arguments}{body:List Stmt}{scope:Scope}{dV kV doc pm cdv ct oc:Value}{an od:Option Addr}
  {osl:Array (Option Value)}{N ps:List Str}{sp:Sp}(lk:K.lookup f=some ⟨oc,od,.func (PySem.W.fnOf name qual params body scope dV kV doc pm an cdv ct),osl⟩) (hcd:PySem.W.codeIn K cdv qual=true) (S:zN N ps scope)
  (len:∀vs H Q E,sp vs H Q E->vs.length=ps.length)
  (hbody:∀(A:Around) (outer:List Env) (s:Shared) (H:Hp) (vs:List V) (Q:VK) (E:XK),Room k (A.deeper (envOfC qual scope s.heap.objs.size f cdv))->sp vs H Q E ->
   ∃t,PSs (cxOf CX P w K mg base N qual scope f cdv A outer s H E) body t/\t { nx:=λ_ H'=>Q .non H',rt:=Q } (start N vs) H):
  FnOk P w K mg base CX (k+1) f (PySem.W.fnOf name qual params body scope dV kV doc pm an cdv ct) ps sp:=by
 refine⟨len,λA outer s H args us vs Q E hr e0 hb r hsp=>?_⟩;have hl:=len _ _ _ _ hsp;have KX:K.In s.heap:=e0.mod.kin.keeps λb o e=>(e0.bs b o e).1;have lim:s.heap.NoLimit:=e0.mod.nolimit.keeps λb o e=>(e0.bs b o e).1;have hkind:∀y∈ps.zip us,scope.names.lookup y.1=some .local\/(scope.names.lookup y.1=some .cell/\((cellsFrom (s.heap.objs.size+1) scope.names []).lookup y.1).isSome=true):=λ⟨n,v⟩ hy=>by
  rcases S.par n (List.of_mem_zip hy).1 with q|q
  ·exact .inl q
  ·exact .inr ⟨q,PySem.W.cellsFrom_some _ _ _ (.inl q)⟩
 refine codeAny_call_function hr.depth (KX _ _ lk) rfl S.co S.gen rfl (PySem.W.codeRec_of KX hcd) (hb _ _ _ _ ?_);refine wpAny_newFunctionEnv_cells S.kind hkind λenv he s1 x=>?_;subst he;refine⟨lim.keeps x.toInCall.keep,codeAny_func ?_⟩;obtain⟨t,ht,hq⟩:=hbody A outer s H vs Q E (hr.deeper _) hsp;have I:Inv (cxOf CX P w K mg base N qual scope f cdv A outer s H E) [] (start N vs) H s1:=T0 S hr.hd e0 hl r x;refine wpAny_mono (ht [] s1 (start N vs) H _ I hq) (λfl s' hs=>?_) λe s' hs=>hs;have fin:∀{σ':St}{H':Hp}{v:V}{u:Value},Inv (cxOf CX P w K mg base N qual scope f cdv A outer s H E) [] σ' H' s'->RelV v u->Q v H'->CE outer P w H s Q u s':=
  λ{σ' H' v u} J rv q=>⟨v,H',J.os,J.bare,J.base,J.hok,rv,q⟩
 cases fl with
 |ret u=>
  obtain⟨v,σ',H',J,rv,q⟩:=hs;exact fin J rv q
 |next=>
  obtain⟨σ',H',J,q⟩:=hs;exact fin (v:=V.non) (u:=Value.none) J rfl q
 |brk=>
  obtain⟨_,_,_,q⟩:=hs;exact False.elim q
 |cont=>
  obtain⟨_,_,_,q⟩:=hs;exact False.elim q
section
variable{X:Cx}{x:Str}{p pos:Pos}{e:Expr}{es:List Expr}{t:TA}{id T:String}{r:List V->Hp->VK->Prop}
noncomputable def tCB(r:List V->Hp->VK->Prop)(t:TA):TE:=λσ H Q=>t σ H λvs H1=>r vs H1 Q
theorem pe_callB(hc:qj X (.builtin id) r)(hg:Gl X x)(hm:X.mg x=none)(hv:bootBuiltins x=some (.builtin id))(ha:PA X (e::es) t)(hn:x≠"__name__":=by decide)(hdb:(x==("__debug__":Str))=false:=by decide)
  (he:starEach (e::es) X.env=(false,eval e X.env)::starEach es X.env:=by rfl) (hpl:(backTo pos (starEach es X.env)).any (·.1)=false:=by rfl):PE X (.Call (.Name x p) (e::es) [] pos) (tCB r t):=by
 intro pins s σ H Q I h;refine wpAny_Call_Name_kw (ld_blt I hg hm hv ?_ hn hdb);exact PyProof.Rows.callWith_builtin1 (thn (ha pos pins s σ H _ I h) λus s1 ⟨vs,H1,I1,r1,q1⟩=>hc pins s1 σ H1 vs us Q I1 r1 q1) he hpl
theorem pe_callTy(hc:qj X (.type T) r)(hg:Gl X x)(hm:X.mg x=none)(hv:bootBuiltins x=some (.type T))(ha:PA X (e::es) t)(hn:x≠"__name__":=by decide)(hdb:(x==("__debug__":Str))=false:=by decide)
  (he:starEach (e::es) X.env=(false,eval e X.env)::starEach es X.env:=by rfl) (hpl:(backTo pos (starEach es X.env)).any (·.1)=false:=by rfl):PE X (.Call (.Name x p) (e::es) [] pos) (tCB r t):=by
 intro pins s σ H Q I h;refine wpAny_Call_Name_kw (ld_blt I hg hm hv ?_ hn hdb);exact PyProof.Rows.callWith_type1 (thn (ha pos pins s σ H _ I h) λus s1 ⟨vs,H1,I1,r1,q1⟩=>hc pins s1 σ H1 vs us Q I1 r1 q1) he hpl
end
end _L
namespace _H
open PySem PyProof.Rows
section
variable{prog:Program}{w:World}{A:Around}{E:Value->Shared->Prop}{s:Shared}
theorem cat_tup{t b:Addr}{vs ws:List Value}{Q:Value->Shared->Prop}(ht:IsTup s.heap t vs.toArray)(hb:IsTup s.heap b ws.toArray)(hv:vs≠[])
  (h1:ws=[]->Q (.ref t) s) (h2:ws≠[]->Q (.ref s.heap.objs.size) { s with heap:=s.heap.push { cls:=.type "tuple",data:=.seq (vs++ws).toArray } })
  (hsz:vs.length+ws.length<=sizeLine):wpAny (model prog w) A (binaryOp .Add (.ref t) (.ref b)) Q E s:=by
 obtain⟨⟨cls,dd,data,sl⟩,ho,hc,n,hd⟩:=id ht;obtain⟨⟨cls2,dd2,data2,sl2⟩,ho2,hc2,n2,hd2⟩:=id hb;simp only at hc hd hc2 hd2;subst hc hd hc2 hd2;have e:vs.toArray++ws.toArray=(vs++ws).toArray:=by simp
 by_cases hw:ws=[]
 ·exact concat_meets ⟨_,ho,rfl⟩ ⟨_,ho2,rfl⟩ noFill_tuple_add seq_tuple_add PySem.F.slot_tuple_add PySem.F.entry_tuple_add (PySem.F.args_tuple_add_2 _ _)
   (tuple_addW1 t b vs.toArray ws.toArray n n2 dd dd2 sl sl2 (by simpa using hv) (by simp[hw])) ⟨ho,ho2,h1 hw⟩
 ·refine concat_meets ⟨_,ho,rfl⟩ ⟨_,ho2,rfl⟩ noFill_tuple_add seq_tuple_add PySem.F.slot_tuple_add PySem.F.entry_tuple_add (PySem.F.args_tuple_add_2 _ _)
   (tuple_addW2 t b vs.toArray ws.toArray n n2 dd dd2 sl sl2 (by simpa using hv) (by simpa using hw) (by rw[wL,wL];exact hsz)) ⟨ho,ho2,?_⟩
  rw[e];exact h2 hw
noncomputable def sIx(n d:Nat):Option Int->Nat
 |none=>d
 |some v=>if v<0 then (v+(n:Int)).toNat else min v.toNat n
theorem sIx_none(n d:Nat):sIx n d none=d:=rfl
theorem sIx_nat(n d k:Nat):sIx n d (some (k:Int))=min k n:=by
 show (if (k:Int)<0 then ((k:Int)+(n:Int)).toNat else min (k:Int).toNat n)=min k n;rw[if_neg (by omega),wk]
theorem qCZ(n d:Nat)(hd:d<=n)(o:Option Int):sIx n d o<=n:=by
 cases o with
 |none=>exact hd
 |some v=>
  show (if v<0 then (v+(n:Int)).toNat else min v.toNat n)<=n;by_cases hv:v<0
  ·rw[if_pos hv];omega
  ·rw[if_neg hv];exact Nat.min_le_right _ _
theorem T1(v:Int)(n d:Nat):(if v<0 then max (v+(n:Int)) 0 else min v (n:Int))=((sIx n d (some v):Nat):Int):=by
 show (if v<0 then max (v+(n:Int)) 0 else min v (n:Int))=(((if v<0 then (v+(n:Int)).toNat else min v.toNat n):Nat):Int);by_cases hv:v<0
 ·simp only[if_pos hv];omega
 ·simp only[if_neg hv];omega
theorem N0(lo hi:Option Int)(n:Nat):Builtin.Slice.sliceAdjust lo hi 1 (n:Int)=(((sIx n 0 lo:Nat):Int),((sIx n n hi:Nat):Int)):=by
 have h1:¬ ((1:Int)<0):=by omega
 unfold Builtin.Slice.sliceAdjust;simp only[h1,if_false];refine Prod.ext ?_ ?_
 ·cases lo with
  |none=>rfl
  |some v=>exact T1 v n 0
 ·cases hi with
  |none=>rfl
  |some v=>exact T1 v n n
theorem K9(i j:Nat):Builtin.Slice.slicePlaces (i:Int) (j:Int) 1=j-i:=by
 unfold Builtin.Slice.slicePlaces;have h1:(1:Int)>0:=by omega
 simp only[h1,if_true,Int.ediv_one];split<;>omega
theorem ZG{v:Value}{o:Option Int}{Q:Option Int->Shared->Prop}(p:IsPart v o)(h:Q o s):wpAny (model prog w) A (Builtin.Slice.slicePartIndex v) Q E s:=by
 cases p with
 |none=>exact slicePart_none h
 |int i t=>exact slicePart_int h
theorem QK{sl:Addr}{vl vu:Value}{lo hi:Option Int}{n:Nat}{Q:Int×Int×Nat->Shared->Prop}(hs:s.heap.IsSliceOf sl vl vu .none)(pl:IsPart vl lo)(pu:IsPart vu hi)
  (h:Q (((sIx n 0 lo:Nat):Int),1,sIx n n hi-sIx n 0 lo) s):wpAny (model prog w) A (Builtin.Slice.sliceApplied (.ref sl) (pure (n:Int))) Q E s:=by
 obtain⟨os,hos,hcs,hds⟩:=id hs;unfold Builtin.Slice.sliceApplied Builtin.Slice.sliceFields;refine vf (vf (wpAny_field hos hds (x:=vl) rfl (vf (wpAny_field hos hds (x:=vu) rfl (vf (wpAny_field hos hds (x:=.none) rfl (vg ?_)))))));refine vf (slicePart_none ?_);show wpAny _ _ (if ((1:Int)==0)=true then _ else _) _ _ s;rw[if_neg (by decide)];refine vf (ZG pl (vf (ZG pu (vf (vg ?_)))));show wpAny _ _ (match Builtin.Slice.sliceAdjust lo hi 1 (n:Int) with|(lo,hi)=>pure (lo,(1:Int),Builtin.Slice.slicePlaces lo hi 1)) _ _ s;rw[N0 lo hi n];show wpAny _ _ (pure (((sIx n 0 lo:Nat):Int),(1:Int),Builtin.Slice.slicePlaces ((sIx n 0 lo:Nat):Int) ((sIx n n hi:Nat):Int) 1)) _ _ s;rw[K9];exact vg h
theorem c6(xs:Array Value)(i k:Nat):((List.range k).filterMap λ(m:Nat)=>xs[((i:Int)+(m:Int)*1).toNat]?).toArray=((xs.toList.drop i).take k).toArray:=by
 have e:(λ(m:Nat)=>xs[((i:Int)+(m:Int)*1).toNat]?)=λm=>xs[i+m]?:=by
  funext m
  have:((i:Int)+(m:Int)*1).toNat=i+m:=by omega
  rw[this]
 rw[e];have:=pick_run xs i k;rw[List.filterMap_map]at this;have e2:((λx=>xs[x]?)∘λx=>i+x)=λm=>xs[i+m]?:=rfl;rw[e2]at this;rw[this]
theorem getItem_tuple_cut{t sl:Addr}{items:Array Value}{vl vu:Value}{lo hi:Option Int}{Q:Value->Shared->Prop}(ht:IsTup s.heap t items)(hs:s.heap.IsSliceOf sl vl vu .none)(pl:IsPart vl lo)(pu:IsPart vu hi)
  (hw:¬ (sIx items.size 0 lo=0/\sIx items.size items.size hi=items.size))
  (h:Q (.ref s.heap.objs.size) { s with heap:=s.heap.push { cls:=.type "tuple",data:=.seq ((items.toList.drop (sIx items.size 0 lo)).take (sIx items.size items.size hi-sIx items.size 0 lo)).toArray } })
  (hsz:items.size<=sizeLine):wpAny (model prog w) A (getItem (.ref t) (.ref sl)) Q E s:=by
 have htake:sizeOk (.seq ((items.toList.drop (sIx items.size 0 lo)).take (sIx items.size items.size hi-sIx items.size 0 lo)).toArray):=by
  show ((items.toList.drop (sIx items.size 0 lo)).take (sIx items.size items.size hi-sIx items.size 0 lo)).toArray.size<=sizeLine;rw[wL,vQ,vI,wZ];omega
 have hj:sIx items.size items.size hi<=items.size:=qCZ _ _ (wF _) hi;obtain⟨os,hos,hcs,hds⟩:=id hs;have hTs:s.TypeIs (.ref sl) "slice":=⟨os,hos,hcs⟩
 unfold getItem
 try with_reducible refine wpAny_holding ?_
 first|refine vf (vg ?_)|skip
 refine vf (wpAny_sequenceKey ht.typeIs (by decide) ?_);refine vf (wpAny_callSpecial?_slot (name:=Str.ofString "__getitem__") ht.typeIs PyProof.Rows.slot_tuple_getitem
  (wpAny_call_entry PyProof.Rows.slot_tuple_getitem ht.typeIs entry_tuple_getitem ?_ (args_tuple_getitem _ _)))
 show wpAny _ _ (Builtin.Tuple.tupleItemsOf (.ref t) >>=_) _ _ s;refine vf (tupleItemsOf_ ht ?_);refine vf (wpAny_typeOf hTs ?_);rw[if_pos (by decide)];refine vf (QK hs pl pu ?_);have hno:¬ ((((sIx items.size 0 lo:Nat):Int)==0&&(1:Int)==1&&(sIx items.size items.size hi-sIx items.size 0 lo)==items.size)=true):=by
  intro q;rw[wB,wB]at q;have q1:((sIx items.size 0 lo:Nat):Int)=0:=eq_of_beq q.1.1;have q2:sIx items.size items.size hi-sIx items.size 0 lo=items.size:=eq_of_beq q.2;exact hw ⟨by omega,by omega⟩
 show wpAny _ _ (if (((sIx items.size 0 lo:Nat):Int)==0&&(1:Int)==1&&(sIx items.size items.size hi-sIx items.size 0 lo)==items.size)=true then _ else _) _ _ s;rw[if_neg hno,c6]
 first
  |exact vf (m:=Builtin.Tuple.tupleExact _) (wpAny_newObj_type (vg ⟨_,rfl,vg h⟩) htake)
  |exact vf (m:=Builtin.Tuple.tupleExact _) (wpAny_newObj_type (vf (vg (vg ⟨_,rfl,vg h⟩))) htake)
  |exact vf (vf (m:=Builtin.Tuple.tupleExact _) (wpAny_newObj_type (vg (vg ⟨_,rfl,vg h⟩)) htake))
  |exact vf (vf (m:=Builtin.Tuple.tupleExact _) (wpAny_newObj_type (vg ⟨_,rfl,vg h⟩) htake))
end
end _H
namespace _L
open PySem PySem.Spec PyProof.Rows
noncomputable abbrev TO:=St->Hp->(Option Int->Hp->Prop)->Prop
def PO(X:Cx)(e:Option Expr)(t:TO):Prop:=
 ∀(pins:List (Addr×Obj)) (s:Shared) (σ:St) (H:Hp) (Q:Option Int->Hp->Prop),Inv X pins σ H s->t σ H Q ->
  wpAny (model X.prog X.w) X.A (evalPart e X.env) (λu s'=>∃o H',Inv X pins σ H' s'/\IsPart u o/\Q o H') X.xe s
noncomputable def qAh:TO:=λ_ H Q=>Q none H
noncomputable def qDt(t:TE):TO:=λσ H Q=>t σ H λx H1=>∃i,x=.int i/\Q (some i) H1
theorem intsAre_of{ns:List Int}:∀{us:List Value},Vals (ns.map V.int) us->IntsAre us ns:=by
 induction ns with
 |nil=>intro us r;rw[List.map_nil]at r;cases r;exact .nil
 |cons n ns ih=>
  intro us r;rw[List.map_cons]at r;cases r with
  |cons r1 r2=>
   obtain⟨t,e⟩:=r1;subst e;exact .cons n t (ih r2)
section
variable{X:Cx}{e:Expr}{te:TE}{lo hi:Option Expr}{tl th:TO}{pos p2:Pos}
theorem po_none:PO X none qAh:=by
 intro pins s σ H Q I h;rw[evalPart_none];exact vg ⟨none,H,I,.none,h⟩
theorem po_some(h:PE X e te):PO X (some e) (qDt te):=by
 intro pins s σ H Q I hw;rw[evalPart_some];refine thn (h pins s σ H _ I hw) λu s1 ⟨x,H1,I1,r1,q1⟩=>?_;obtain⟨i,rfl,q⟩:=q1;obtain⟨t,rfl⟩:=r1;exact⟨some i,H1,I1,.int i t,q⟩
def SlR(X:Cx)(r:V->Option Int->Option Int->Hp->VK->Prop):Prop:=
 ∀(pins:List (Addr×Obj)) (s:Shared) (σ:St) (H:Hp) (x:V) (v vl vu:Value) (lo hi:Option Int) (sl:Addr) (Q:VK),Inv X pins σ H s->RelV x v->s.heap.IsSliceOf sl vl vu .none->IsPart vl lo->IsPart vu hi->r x lo hi H Q ->
  ∃T id,typeLookup (.type T) "__getitem__"=pure (some (.builtin id))/\s.TypeIs v T/\wpAny (model X.prog X.w) X.A (getItem v (.ref sl)) (EP X pins σ Q) X.xe s
theorem SlR.or{r r':V->Option Int->Option Int->Hp->VK->Prop}(h:SlR X r)(h':SlR X r'):SlR X (λx lo hi H Q=>r x lo hi H Q\/r' x lo hi H Q):=by
 intro pins s σ H x v vl vu lo hi sl Q I rx hs pl pu q;rcases q with q|q
 ·exact h pins s σ H x v vl vu lo hi sl Q I rx hs pl pu q
 ·exact h' pins s σ H x v vl vu lo hi sl Q I rx hs pl pu q
noncomputable def tSl(r:V->Option Int->Option Int->Hp->VK->Prop)(te:TE)(tl th:TO):TE:=λσ H Q=>te σ H λx H1=>tl σ H1 λl H2=>th σ H2 λu H3=>r x l u H3 Q
theorem pe_slice{r:V->Option Int->Option Int->Hp->VK->Prop}(hr:SlR X r)(he:PE X e te)(hl:PO X lo tl)(hu:PO X hi th):PE X (.Subscript e (.Slice lo hi none p2) pos) (tSl r te tl th):=by
 intro pins s σ H Q I h;refine Subscript_ (thn (he pins s σ H _ I h) λv s1 ⟨x,H1,I1,r1,q1⟩=>?_);refine wpAny_Slice (thn (hl pins s1 σ H1 _ I1 q1) λvl s2 ⟨l,H2,I2,pl,q2⟩=>thn (hu pins s2 σ H2 _ I2 q2) λvu s3 ⟨u,H3,I3,pu,q3⟩=>?_);rw[evalPart_none];refine vg ?_;have I4:Inv X pins σ H3 { s3 with heap:=s3.heap.push { cls:=.type "slice",data:=.fields #[vl,vu,.none] } }:=I3.kept (t':=s3.toks) λb ob q=>Heap.get?_push_of_some _ q;obtain⟨T,id,hT,ht,hg⟩:=hr pins { s3 with heap:=s3.heap.push { cls:=.type "slice",data:=.fields #[vl,vu,.none] } } σ H3 x v vl vu l u s3.heap.objs.size Q I4 r1 (Heap.IsSliceOf.new ..) pl pu q3;show wpAny (model X.prog X.w) X.A (subscriptTail e (.Slice lo hi none p2) v (.ref s3.heap.objs.size)) (EP X pins σ Q) X.xe { s3 with heap:=s3.heap.push { cls:=.type "slice",data:=.fields #[vl,vu,.none] } };exact tail_any (ops:=[.ref s3.heap.objs.size,v]) ht hT hg (by with_unfolding_all rfl)
noncomputable def cutV(xs:List V)(lo hi:Option Int):List V:=(xs.drop (_H.sIx xs.length 0 lo)).take (_H.sIx xs.length xs.length hi-_H.sIx xs.length 0 lo)
theorem Qq(xs:List V)(lo hi:Option Int):(cutV xs lo hi).length<=xs.length:=by
 unfold cutV;rw[vQ,vI];omega
def qGK(K:PySem.W.Frag):V->Option Int->Option Int->Hp->VK->Prop:=λx lo hi H Q=>∃a xs,x=.ref a/\SqT K H a xs/\
 ¬ (_H.sIx xs.length 0 lo=0/\_H.sIx xs.length xs.length hi=xs.length)/\∀p,H p=none->Q (.ref p) (upd H p (.tup (cutV xs lo hi)))
theorem sl_tup:SlR X (qGK X.K):=by
 intro pins s σ H x v vl vu lo hi sl Q I rx hs pl pu h;obtain⟨a,xs,rfl,hx,hw,q⟩:=h;cases rx;obtain⟨its,r,ht,hz⟩:=I.tuple hx;have hlen:its.toArray.size=xs.length:=by rw[wL];exact r.length.symm
 refine⟨"tuple",_,PyProof.Rows.slot_tuple_getitem.lookup,ht.typeIs,?_⟩;refine _H.getItem_tuple_cut ht hs pl pu (by rw[hlen];exact hw) ?_ (by rw[hlen];exact hz);rw[hlen];refine⟨.ref s.heap.objs.size,_,I.laid (t':=s.toks) (o:=.tup (cutV xs lo hi)) (λb ob q=>Heap.get?_push_of_some _ q) (wF _) ?_,rfl,q _ (I.hok.fresh (wF _))⟩;exact⟨wM (Qq xs lo hi) hz,_,(r.drop (_H.sIx xs.length 0 lo)).take (_H.sIx xs.length xs.length hi-_H.sIx xs.length 0 lo),IsTup.new _ _⟩
noncomputable def rCatT(K:PySem.W.Frag):R2:=λx y H Q=>∃a b xs ys,x=.ref a/\y=.ref b/\SqT K H a xs/\SqT K H b ys/\xs≠[]/\xs.length+ys.length<=sizeLine/\
 (ys=[]->Q (.ref a) H)/\(ys≠[]->∀p,H p=none->Q (.ref p) (upd H p (.tup (xs++ys))))
theorem Vals.nil_iff{xs:List V}{us:List Value}(r:Vals xs us):us=[]↔xs=[]:=by
 cases r with
 |nil=>simp
 |cons _ _=>simp
theorem op_catT:OpR X (binaryOp .Add) (rCatT X.K):=by
 intro pins s σ H x y v u Q I rx ry h;obtain⟨a,b,xs,ys,rfl,rfl,ha,hb,hx,hz,q1,q2⟩:=h;cases rx;cases ry;obtain⟨its,r1,p1,_⟩:=I.tuple ha;obtain⟨its2,r2,p2,_⟩:=I.tuple hb;refine _H.cat_tup p1 p2 (λz=>hx (r1.nil_iff.mp z)) (λz=>⟨.ref a,H,I,rfl,q1 (r2.nil_iff.mp z)⟩) (λz=>?_) (by rw[<-r1.length,<-r2.length];exact hz);refine⟨.ref s.heap.objs.size,_,I.laid (t':=s.toks) (o:=.tup (xs++ys)) (λb ob q=>Heap.get?_push_of_some _ q) (wF _) ?_,rfl,q2 (λw=>z (r2.nil_iff.mpr w)) _ (I.hok.fresh (wF _))⟩;exact⟨by rw[wX];exact hz,_,r1.append r2,IsTup.new _ _⟩
end
noncomputable def ixN(n:Nat)(i:Int):Option Nat:=if 0<=i then (if i<n then some i.toNat else none) else if -(n:Int)<=i then some (i+n).toNat else none
noncomputable def atI{α:Type}(xs:List α)(i:Int):Option α:=(ixN xs.length i).bind λj=>xs[j]?
theorem T9{n:Nat}{i:Int}{j:Nat}(h:ixN n i=some j):seqIndex? i n=some j/\j<n/\-(n:Int)<=i/\i<n:=by
 unfold ixN at h;by_cases h0:0<=i
 ·rw[if_pos h0]at h;by_cases h1:i<n
  ·rw[if_pos h1]at h;have e:i.toNat=j:=Option.some.inj h;exact⟨by rw[seqIndex_of h0 h1,e],by omega,by omega,h1⟩
  ·rw[if_neg h1]at h;cases h
 ·rw[if_neg h0]at h;by_cases h1:-(n:Int)<=i
  ·rw[if_pos h1]at h;have e:(i+n).toNat=j:=Option.some.inj h;exact⟨by rw[seqIndex_neg (by omega) h1,e],by omega,h1,by omega⟩
  ·rw[if_neg h1]at h;cases h
theorem atI_get{α:Type}{xs:List α}{i:Int}{v:α}(h:atI xs i=some v):∃j,seqIndex? i xs.length=some j/\xs[j]?=some v/\j<xs.length/\-(xs.length:Int)<=i/\i<xs.length:=by
 unfold atI at h;cases e:ixN xs.length i with
 |none=>rw[e]at h;cases h
 |some j=>
  rw[e]at h;obtain⟨h1,h2,h3,h4⟩:=T9 e;exact⟨j,h1,h,h2,h3,h4⟩
def PlainIx(b:Expr):Prop:=∀o i,subscripted b false o i=operate [o,i] (getItem o i)
def IxR(X:Cx)(r:R2):Prop:=
 ∀(value slice:Expr) (pins:List (Addr×Obj)) (s:Shared) (σ:St) (H:Hp) (x y:V) (v u:Value) (Q:VK),Inv X pins σ H s->RelV x v->RelV y u->r x y H Q ->
  subscripted slice false v u=operate [v,u] (getItem v u)->wpAny (model X.prog X.w) X.A (subscriptTail value slice v u) (EP X pins σ Q) X.xe s
def MtR(X:Cx)(id:String)(r:V->List V->Hp->VK->Prop):Prop:=
 ∀(pins:List (Addr×Obj)) (s:Shared) (σ:St) (H:Hp) (x:V) (xs:List V) (v:Value) (us:List Value) (Q:VK),Inv X pins σ H s->RelV x v->Vals xs us->r x xs H Q ->
  wpAny (model X.prog X.w) X.A (call (.builtin id) (v::us)) (EP X pins σ Q) X.xe s
section
variable{X:Cx}{a b:Expr}{ta tb:TE}{pos:Pos}
theorem IxR.or{r r':R2}(h:IxR X r)(h':IxR X r'):IxR X (λx y H Q=>r x y H Q\/r' x y H Q):=by
 intro value slice pins s σ H x y v u Q I rx ry q hs;rcases q with q|q
 ·exact h value slice pins s σ H x y v u Q I rx ry q hs
 ·exact h' value slice pins s σ H x y v u Q I rx ry q hs
theorem pe_ix{r:R2}(hr:IxR X r)(ha:PE X a ta)(hb:PE X b tb)(hs:PlainIx b):PE X (.Subscript a b pos) (tOp r ta tb):=by
 intro pins s σ H Q I h;exact Subscript_ (qc ha hb I h λv u s2 x y H2 I2 rx ry q=>hr a b pins s2 σ H2 x y v u Q I2 rx ry q (hs _ _))
noncomputable def rIxL(K:PySem.W.Frag):R2:=λx y H Q=>∃p xs i v,x=.ref p/\y=.int i/\SqL K H p xs/\atI xs i=some v/\Q v H
noncomputable def qGe(K:PySem.W.Frag):R2:=λx y H Q=>∃p xs i v,x=.ref p/\y=.int i/\SqT K H p xs/\atI xs i=some v/\Q v H
theorem ix_list:IxR X (rIxL X.K):=by
 intro value slice pins s σ H x y v u Q I rx ry h hs;obtain⟨p,xs,i,z,rfl,rfl,hq,he,q⟩:=h;cases rx;obtain⟨t,rfl⟩:=ry;obtain⟨its,r,pl,hz⟩:=I.list hq;obtain⟨j,h1,h2,h3,h4,h5⟩:=atI_get he;obtain⟨w,ew,rw'⟩:=r.get h2;have hl:=r.length;have hn:=line63;have fin:EP X pins σ Q w s:=⟨z,H,I,rw',q⟩
 by_cases h0:0<=i
 ·have hj:i.toNat=j:=by
   rw[seqIndex_of h0 h5]at h1;exact Option.some.inj h1
  exact item_listR pl.isList h0 (by omega) (by rw[hj];simpa using ew) fin hs
 ·have hj:(i+(its.toArray.size:Int)).toNat=j:=by
   rw[seqIndex_neg (by omega) h4]at h1;rw[wL,<-hl];exact Option.some.inj h1
  exact subscriptTail_builtinR (x:=w) pl.isList.typeIs slot_list_getitem.lookup
   (wpAny_getItem_list_neg (Q:=λr s'=>r=w/\EP X pins σ Q r s') pl.isList (by omega) (by rw[wL]<;>omega) (by omega) (by rw[hj];simpa using ew) ⟨rfl,fin⟩) hs
theorem ix_tup:IxR X (qGe X.K):=by
 intro value slice pins s σ H x y v u Q I rx ry h hs;obtain⟨p,xs,i,z,rfl,rfl,hq,he,q⟩:=h;cases rx;obtain⟨t,rfl⟩:=ry;obtain⟨its,r,pl,hz⟩:=I.tuple hq;obtain⟨j,h1,h2,h3,h4,h5⟩:=atI_get he;obtain⟨w,ew,rw'⟩:=r.get h2;have hl:=r.length;have hn:=line63;have fin:EP X pins σ Q w s:=⟨z,H,I,rw',q⟩
 exact subscriptTail_builtinR (x:=w) pl.typeIs slot_tuple_getitem.lookup
  (getItem_tuple (j:=j) (Q:=λr s'=>r=w/\EP X pins σ Q r s') pl (by omega) (by omega) (by rw[wL,<-hl];exact h1) (by simpa using ew) ⟨rfl,fin⟩) hs
theorem K1(its:List Value)(n j:Nat)(u:Value):Obj.mapSeq (·.setIfInBounds j u) { cls:=.type "list",data:=.seq its.toArray n }={ cls:=.type "list",data:=.seq (its.set j u).toArray n }:=by
 simp[Obj.mapSeq]
theorem Inv.lst{pins:List (Addr×Obj)}{σ:St}{H:Hp}{s:Shared}{p:Addr}{xs:List V}(I:Inv X pins σ H s)(h:H p=some (.lst xs)):
  ∃(its:List Value) (n:Nat),Vals xs its/\s.heap.get? p=some { cls:=.type "list",data:=.seq its.toArray n }/\xs.length<=sizeLine:=by
 obtain⟨z,its,n,r,e⟩:=I.hok p _ h;exact⟨its,n,r,e,z⟩
theorem Inv.lstUpd{pins:List (Addr×Obj)}{σ:St}{H:Hp}{s:Shared}{p:Addr}{xs ys:List V}{its its':List Value}{n n':Nat}{f:Obj->Obj}(I:Inv X pins σ H s)(h:H p=some (.lst xs))
  (ho:s.heap.get? p=some { cls:=.type "list",data:=.seq its.toArray n }) (hf:f { cls:=.type "list",data:=.seq its.toArray n }={ cls:=.type "list",data:=.seq its'.toArray n' }) (r:Vals ys its') (hz:ys.length<=sizeLine) (t:Nat):
  Inv X pins σ (upd H p (.lst ys)) { s with heap:=s.heap.update p f,toks:=t }:=by
 have e:(s.heap.update p f).get? p=some { cls:=.type "list",data:=.seq its'.toArray n' }:=by
  rw[Heap.get?_update_self f ho (by rw[hf]<;>rfl),hf]
 refine I.write (x:=p) (e:=p) (by rw[h];trivial) (.inl rfl) (λb u hb q=>(Heap.get?_update_other _ _ (Ne.symm hb)).trans q) ⟨_,e⟩ ?_;exact⟨hz,its',n',r,e⟩
def rSetL:V->V->V->Hp->(Hp->Prop)->Prop:=λo i v H Q=>∃p xs k j,o=.ref p/\i=.int k/\H p=some (.lst xs)/\ixN xs.length k=some j/\Q (upd H p (.lst (xs.set j v)))
theorem set_list:PSet X rSetL:=by
 intro pins s σ H o i v ov iv u Q I ro ri rv h;obtain⟨p,xs,k,j,rfl,rfl,hp,hj,q⟩:=h;cases ro;obtain⟨t,rfl⟩:=ri;obtain⟨its,n,r,ho,hz⟩:=I.lst hp;obtain⟨h1,h2,h3,h4⟩:=T9 hj;have hl:=r.length;have hn:=line63;have I':Inv X pins σ (upd H p (.lst (xs.set j v))) { s with heap:=s.heap.update p (Obj.mapSeq (·.setIfInBounds j u)) }:=
  I.lstUpd hp ho (K1 its n j u) (r.set rv j) (by rw[List.length_set];exact hz) s.toks
 by_cases h0:0<=k
 ·have hk:k.toNat=j:=by
   rw[seqIndex_of h0 h4]at h1;exact Option.some.inj h1
  exact PySem.W.ki_setAt ho h0 (by omega) (by rw[wL,<-hl];exact h4) (by rw[hk];exact⟨_,I',q⟩)
 ·have hk:(k+(its.toArray.size:Int)).toNat=j:=by
   rw[seqIndex_neg (by omega) h3]at h1;rw[wL,<-hl];exact Option.some.inj h1
  exact PySem.W.ki_setBack ho (by omega) (by rw[wL,<-hl];exact h3) (by omega) (by rw[hk];exact⟨_,I',q⟩)
theorem JI(lo hi:Option Int)(n:Nat):(sliceBounds lo hi none n).1=((_H.sIx n 0 lo:Nat):Int)/\(sliceBounds lo hi none n).2.1=((_H.sIx n n hi:Nat):Int)/\(sliceBounds lo hi none n).2.2=1:=by
 refine⟨?_,?_,rfl⟩
 ·cases lo with
  |none=>simp[sliceBounds,_H.sIx]
  |some i=>
   simp only[sliceBounds,_H.sIx,Option.getD_none,show (1:Int)>0 by decide,if_true];by_cases h:i<0
   ·simp only[h,if_true]<;>omega
   ·simp only[h,if_false]<;>omega
 ·cases hi with
  |none=>simp[sliceBounds,_H.sIx]
  |some i=>
   simp only[sliceBounds,_H.sIx,Option.getD_none,show (1:Int)>0 by decide,if_true];by_cases h:i<0
   ·simp only[h,if_true]<;>omega
   ·simp only[h,if_false]<;>omega
theorem Zj(its:List Value)(lo hi:Option Int):slicePick its.toArray lo hi none=((its.drop (_H.sIx its.length 0 lo)).take (_H.sIx its.length its.length hi-_H.sIx its.length 0 lo)).toArray:=by
 obtain⟨h1,h2,h3⟩:=JI lo hi its.toArray.size;unfold slicePick;rw[h1,h2,h3];simp only[sliceRange_one,pick_run,wL]<;>rfl
def qFr(K:PySem.W.Frag):V->Option Int->Option Int->Hp->VK->Prop:=λx lo hi H Q=>∃a xs,x=.ref a/\SqL K H a xs/\∀p,H p=none->Q (.ref p) (upd H p (.lst (cutV xs lo hi)))
theorem sl_list:SlR X (qFr X.K):=by
 intro pins s σ H x v vl vu lo hi sl Q I rx hs pl pu h;obtain⟨a,xs,rfl,hx,q⟩:=h;cases rx;obtain⟨its,r,ht,hz⟩:=I.list hx;have hlen:=r.length;refine⟨"list",_,slot_list_getitem.lookup,ht.isList.typeIs,?_⟩;refine wpAny_getItem_list_slice ht.isList hs pl pu .none (by simp) ?_ (by rw[wL]<;>omega);rw[Zj,<-hlen];refine⟨.ref s.heap.objs.size,_,I.laid (t':=s.toks) (o:=.lst (cutV xs lo hi)) (λb ob q=>Heap.get?_push_of_some _ q) (wF _) ?_,rfl,q _ (I.hok.fresh (wF _))⟩;exact⟨wM (Qq xs lo hi) hz,_,0,(r.drop (_H.sIx xs.length 0 lo)).take (_H.sIx xs.length xs.length hi-_H.sIx xs.length 0 lo),Heap.get?_push_size _ rfl⟩
noncomputable def flatV:V->Bool
 | .non=>true
 | .bl _=>true
 | .int _=>true
 | .str _=>true
 |_=>false
noncomputable def eqV:V->V->Bool
 | .non,.non=>true
 | .bl a,.bl b=>a==b
 | .bl a,.int b=>(if a then 1 else 0)==b
 | .int a,.bl b=>a==(if b then 1 else 0)
 | .int a,.int b=>a==b
 | .str a,.str b=>a==b
 |_,_=>false
theorem qBs{A:Around}{s:Shared}{y x:V}{u v:Value}(ry:RelV y u)(rx:RelV x v)(fy:flatV y=true)(fx:flatV x=true):SeqAt.EqAt A s u v (eqV y x):=by
 cases y with
 |non=>
  cases ry;cases x with
  |non=>cases rx;exact SeqAt.EqAt.same _
  |bl b=>cases rx;exact SeqAt.EqAt.none_bool b
  |int b=>obtain⟨t,rfl⟩:=rx;exact SeqAt.EqAt.none_int b t
  |str b=>obtain⟨t,rfl⟩:=rx;exact SeqAt.EqAt.none_str b t
  |_=>exact absurd (show false=true from fx) wm
 |bl a=>
  cases ry;cases x with
  |non=>cases rx;exact SeqAt.EqAt.bool_none a
  |bl b=>cases rx;exact SeqAt.EqAt.bool_bool a b
  |int b=>obtain⟨t,rfl⟩:=rx;exact SeqAt.EqAt.bool_int a b t
  |str b=>obtain⟨t,rfl⟩:=rx;exact SeqAt.EqAt.bool_str a b t
  |_=>exact absurd (show false=true from fx) wm
 |int a=>
  obtain⟨t',rfl⟩:=ry;cases x with
  |non=>cases rx;exact SeqAt.EqAt.int_none a t'
  |bl b=>cases rx;exact SeqAt.EqAt.int_bool a t' b
  |int b=>obtain⟨t,rfl⟩:=rx;exact SeqAt.EqAt.int_int a t' b t
  |str b=>obtain⟨t,rfl⟩:=rx;exact SeqAt.EqAt.int_str a t' b t
  |_=>exact absurd (show false=true from fx) wm
 |str a=>
  obtain⟨t',rfl⟩:=ry;cases x with
  |non=>cases rx;exact SeqAt.EqAt.str_none a t'
  |bl b=>cases rx;exact SeqAt.EqAt.str_bool a t' b
  |int b=>obtain⟨t,rfl⟩:=rx;exact SeqAt.EqAt.str_int a t' b t
  |str b=>obtain⟨t,rfl⟩:=rx;exact SeqAt.EqAt.str_str a t' b t
  |_=>exact absurd (show false=true from fx) wm
 |_=>exact absurd (show false=true from fy) wm
noncomputable def eqU(x:V)(u:Value):Bool:=match u with
 | .none=>eqV .non x
 | .bool b=>eqV (.bl b) x
 | .int i _=>eqV (.int i) x
 | .str z _=>eqV (.str z) x
 |_=>false
theorem w5{x y:V}{u:Value}(r:RelV y u)(f:flatV y=true):eqU x u=eqV y x:=by
 cases y with
 |non=>cases r;rfl
 |bl b=>cases r;rfl
 |int i=>obtain⟨t,rfl⟩:=r;rfl
 |str z=>obtain⟨t,rfl⟩:=r;rfl
 |_=>exact absurd (show false=true from f) wm
theorem Qk{x:V}:∀{xs:List V}{us:List Value},Vals xs us->xs.all flatV=true->us.any (eqU x)=xs.any λy=>eqV y x
 |_,_,.nil,_=>rfl
 |y::xs,u::us,.cons r t,f=>by
  rw[List.all_cons,wB]at f;rw[List.any_cons,List.any_cons,w5 r f.1,Qk t f.2]
theorem jU{A:Around}{s:Shared}{x:V}{v:Value}(rx:RelV x v)(fx:flatV x=true):∀{xs:List V}{us:List Value},Vals xs us->xs.all flatV=true->∀u∈us,SeqAt.EqAt A s u v (eqU x u)
 |_,_,.nil,_=>λu hu=>by cases hu
 |y::xs,u::us,.cons r t,f=>λu' hu=>by
  rw[List.all_cons,wB]at f;rcases wI.mp hu with rfl|hu
  ·rw[w5 r f.1];exact qBs r rx f.1 fx
  ·exact jU rx fx t f.2 u' hu
noncomputable def inV(x:V)(xs:List V):Bool:=xs.any λy=>eqV y x
noncomputable def rIn(K:PySem.W.Frag)(neg:Bool):R2:=λx y H Q=>∃p xs,y=.ref p/\(SqL K H p xs\/SqT K H p xs)/\flatV x=true/\xs.all flatV=true/\Q (.bl (if neg then !inV x xs else inV x xs)) H
theorem op_in_seq:OpR X (compareOp .In) (rIn X.K false):=by
 intro pins s σ H x y v u Q I rx ry h;obtain⟨p,xs,rfl,hq,fx,fs,q⟩:=h;cases ry;rcases hq with hq|hq
 ·obtain⟨its,r,pl,hz⟩:=I.list hq;refine SeqAt.in_listAt (eqU x) pl.isList (λw hw=>jU rx fx r fs w (by simpa using hw)) ⟨.bl _,H,I,rfl,?_⟩;rw[show its.toArray.any (eqU x)=its.any (eqU x) by simp,Qk r fs];exact q
 ·obtain⟨its,r,pl,hz⟩:=I.tuple hq;refine SeqAt.in_tupleAt (eqU x) pl (λw hw=>jU rx fx r fs w (by simpa using hw)) ⟨.bl _,H,I,rfl,?_⟩;rw[show its.toArray.any (eqU x)=its.any (eqU x) by simp,Qk r fs];exact q
theorem op_notIn_seq:OpR X (compareOp .NotIn) (rIn X.K true):=by
 intro pins s σ H x y v u Q I rx ry h;obtain⟨p,xs,rfl,hq,fx,fs,q⟩:=h;cases ry;rcases hq with hq|hq
 ·obtain⟨its,r,pl,hz⟩:=I.list hq;refine SeqAt.notIn_listAt (eqU x) pl.isList (λw hw=>jU rx fx r fs w (by simpa using hw)) ⟨.bl _,H,I,rfl,?_⟩;rw[show its.toArray.any (eqU x)=its.any (eqU x) by simp,Qk r fs];exact q
 ·obtain⟨its,r,pl,hz⟩:=I.tuple hq;refine SeqAt.notIn_tupleAt (eqU x) pl (λw hw=>jU rx fx r fs w (by simpa using hw)) ⟨.bl _,H,I,rfl,?_⟩;rw[show its.toArray.any (eqU x)=its.any (eqU x) by simp,Qk r fs];exact q
theorem call_len_seq:qj X (.builtin "len") (λxs H Q=>∃p ys,xs=[.ref p]/\(SqL X.K H p ys\/SqT X.K H p ys)/\Q (.int ys.length) H):=by
 intro pins s σ H xs us Q I r h;obtain⟨p,ys,rfl,hq,q⟩:=h;obtain⟨u,rfl,rx⟩:=vals1 r;cases rx;have hn:=line63;rcases hq with hq|hq
 ·obtain⟨its,r',pl,hz⟩:=I.list hq;have hlen:=r'.length;exact Calls.call_len_list pl.isList (by simp only[wL]<;>omega) ⟨.int ys.length,H,I.tok _,⟨s.toks+1,by rw[wL,hlen]⟩,q⟩
 ·obtain⟨its,r',pl,hz⟩:=I.tuple hq;have hlen:=r'.length;exact len_tuple pl (by simp only[wL]<;>omega) ⟨.int ys.length,H,I.tok _,⟨s.toks+1,by rw[wL,hlen]⟩,q⟩
theorem call_list_of:qj X (.type "list") (λxs H Q=>∃p ys,xs=[.ref p]/\(SqL X.K H p ys\/SqT X.K H p ys)/\∀l,H l=none->Q (.ref l) (upd H l (.lst ys))):=by
 intro pins s σ H xs us Q I r h;obtain⟨p,ys,rfl,hq,q⟩:=h;obtain⟨u,rfl,rx⟩:=vals1 r;cases rx;have fin:∀(its:List Value),Vals ys its->ys.length<=sizeLine->∀(h':Heap) (c':Nat),(∀b o',s.heap.get? b=some o'->h'.get? b=some o') ->
   h'.get? s.heap.objs.size=some { cls:=.type "list",dict:=none,data:=.seq its.toArray c',slots:=#[] }->EP X pins σ Q (.ref s.heap.objs.size) { s with heap:=h' }:=λits r' hz h' c' kp e=>
  ⟨.ref s.heap.objs.size,_,I.laid (t':=s.toks) kp (wF _) (show ObjOk X.prog X.w _ h' _ (.lst ys) from⟨hz,its,c',r',e⟩),rfl,q _ (I.hok.fresh (wF _))⟩
 rcases hq with hq|hq
 ·obtain⟨its,r',pl,hz⟩:=I.list hq;have hlen:=r'.length;obtain⟨o,ho,hc,n,hd⟩:=pl.isList;exact call_list_seq p (.inl rfl) ho hc hd (λh' c' kp e=>fin its r' hz h' c' kp e) (by simp only[wL]<;>omega)
 ·obtain⟨its,r',pl,hz⟩:=I.tuple hq;have hlen:=r'.length;obtain⟨o,ho,hc,n,hd⟩:=pl;exact call_list_seq p (.inr rfl) ho hc hd (λh' c' kp e=>fin its r' hz h' c' kp e) (by simp only[wL]<;>omega)
theorem call_tuple_of:qj X (.type "tuple") (λxs H Q=>∃p ys,xs=[.ref p]/\((SqL X.K H p ys/\∀l,H l=none->Q (.ref l) (upd H l (.tup ys)))\/(SqT X.K H p ys/\Q (.ref p) H))):=by
 intro pins s σ H xs us Q I r h;obtain⟨p,ys,rfl,h⟩:=h;obtain⟨u,rfl,rx⟩:=vals1 r;cases rx;rcases h with⟨hq,q⟩|⟨hq,q⟩
 ·obtain⟨its,r',pl,hz⟩:=I.list hq;have hlen:=r'.length;refine call_tuple_list pl.isList (λh' kp=>?_) (by simp only[wL]<;>omega);have I1:Inv X pins σ H { s with heap:=h' }:=I.kept (t':=s.toks) kp;have I2:Inv X pins σ (upd H h'.objs.size (.tup ys)) { s with heap:=h'.push { cls:=.type "tuple",data:=.seq its.toArray } }:=
   I1.laid (t':=s.toks) (λb o e=>Heap.get?_push_of_some _ e) (wF _) (show ObjOk X.prog X.w _ _ _ (.tup ys) from⟨hz,its,r',IsTup.new _ _⟩)
  exact⟨.ref h'.objs.size,_,I2,rfl,q _ (I1.hok.fresh (wF _))⟩
 ·obtain⟨its,r',pl,hz⟩:=I.tuple hq;exact call_tuple_same pl ⟨.ref p,H,I,rfl,q⟩
def tyV(K:PySem.W.Frag)(T:String)(x:V)(H:Hp):Prop:=match x with
 | .str _=>T="str"
 | .int _=>T="int"
 | .ref p=>(T="list"/\∃xs,SqL K H p xs)\/(T="tuple"/\∃o,K.lookup p=some o/\o.cls=.type "tuple"/\o.dict=none)\/
   (T="dict"/\((∃kvs,H p=some (.dK kvs))\/∃kvs,H p=some (.dT kvs)))\/(T="set"/\∃S n,H p=some (.set S n))
 |_=>False
theorem p0{pins:List (Addr×Obj)}{σ:St}{H:Hp}{s:Shared}{T:String}{x:V}{v:Value}(I:Inv X pins σ H s)(r:RelV x v)(ty:tyV X.K T x H):
  s.TypeIs v T/\∀a,v=.ref a->∃ob,s.heap.get? a=some ob/\ob.dict=none:=by
 cases x with
 |str z=>
  obtain⟨t,rfl⟩:=r;cases (show T="str" from ty);exact⟨typeIs_str s z t,λ_ e=>nomatch e⟩
 |int i=>
  obtain⟨t,rfl⟩:=r;cases (show T="int" from ty);exact⟨typeIs_int s i t,λ_ e=>nomatch e⟩
 |ref p=>
  cases r;rcases ty with⟨rfl,xs,hq⟩|⟨rfl,o,hk,hc,hd⟩|⟨rfl,hk⟩|⟨rfl,S,n,hk⟩
  ·obtain⟨its,_,pl,_⟩:=I.list hq;refine⟨pl.isList.typeIs,λa e=>?_⟩;cases e;obtain⟨o,n,e,c,hd,_⟩:=pl;exact⟨o,e,hd⟩
  ·refine⟨⟨o,I.kIn p o hk,hc⟩,λa e=>?_⟩;cases e;exact⟨o,I.kIn _ o hk,hd⟩
  ·have z:∃o,s.heap.get? p=some o/\o.ExactDict:=by
    rcases hk with⟨kvs,hk⟩|⟨kvs,hk⟩
    ·obtain⟨_,_,_,_,o,_,_,e,ex,_⟩:=I.hok p _ hk;exact⟨o,e,ex⟩
    ·obtain⟨_,_,_,_,o,_,_,e,ex,_⟩:=I.hok p _ hk;exact⟨o,e,ex⟩
   obtain⟨o,e,ex⟩:=z;refine⟨⟨o,e,ex.1⟩,λa e2=>?_⟩;cases e2;exact⟨o,e,ex.2.1⟩
  ·obtain⟨o,_,_,_,e,ex,_⟩:=I.hok p _ hk;refine⟨⟨o,e,ex.1⟩,λa e2=>?_⟩;cases e2;exact⟨o,e,ex.2.1⟩
 |_=>exact False.elim ty
noncomputable def qFh(K:PySem.W.Frag)(T:String)(r:V->List V->Hp->VK->Prop)(to:TE):TE:=λσ H Q=>to σ H λx H1=>tyV K T x H1/\r x [] H1 Q
noncomputable def tBM(K:PySem.W.Frag)(T:String)(r:V->List V->Hp->VK->Prop)(to:TE)(t:TA):TE:=λσ H Q=>to σ H λx H1=>tyV K T x H1/\t σ H1 λxs H2=>r x xs H2 Q
variable{o e:Expr}{es:List Expr}{to:TE}{t:TA}{name:Str}{apos cpos:Pos}{T id:String}{r:V->List V->Hp->VK->Prop}
theorem pe_bm0(pa:PlainAttrs T)(slot:Slot T name id)(hty:typeOf (.builtin id)=pure (.type "method_descriptor"))(hm:MtR X id r)(ho:PE X o to)
  (hbase:attributeBase o name X.env (eval o X.env)=eval o X.env:=by rfl) (hline:(apos.endLine==cpos.line)=true:=by rfl):PE X (.Call (.Attribute o name apos) [] [] cpos) (qFh X.K T r to):=by
 intro pins s σ H Q I h;refine wpAny_Call_method0_late hbase hline (thn (ho pins s σ H _ I h) λv s1 ⟨x,H1,I1,r1,ty,q1⟩=>?_);obtain⟨h1,h2⟩:=p0 I1 r1 ty;exact⟨T,id,pa,slot,hty,h1,h2,Calls.callWith_builtin rfl (PySem.evalArgs_none (hm pins s1 σ H1 x [] v [] Q I1 r1 .nil q1))⟩
theorem pe_bm(pa:PlainAttrs T)(slot:Slot T name id)(hty:typeOf (.builtin id)=pure (.type "method_descriptor"))(hm:MtR X id r)(ho:PE X o to)(ha:PA X (e::es) t)
  (hbase:attributeBase o name X.env (eval o X.env)=eval o X.env:=by rfl)
  (hfew:((backTo cpos (starEach (e::es) X.env)).all (λx=>!x.1)&&(backToKw cpos (keywordEach [] X.env)).all (λx=>x.1.isSome)
   && decide ((e::es).length+([]:List Keyword).length+(if ([]:List Keyword).isEmpty then 0 else 1)<30))=true:=by rfl)
  (hline:(apos.endLine==cpos.line)=true:=by rfl) (hs:starEach (e::es) X.env=(false,eval e X.env)::starEach es X.env:=by rfl) (hplain:(backTo cpos (starEach es X.env)).any (·.1)=false:=by rfl):
  PE X (.Call (.Attribute o name apos) (e::es) [] cpos) (tBM X.K T r to t):=by
 intro pins s σ H Q I h;refine wpAny_Call_method_late hbase hfew hline rfl (thn (ho pins s σ H _ I h) λv s1 ⟨x,H1,I1,r1,ty,q1⟩=>?_);obtain⟨h1,h2⟩:=p0 I1 r1 ty;refine⟨T,id,pa,slot,hty,h1,h2,?_⟩;have hA:=ha cpos pins s1 σ H1 _ I1 q1;rw[hs]at hA ⊢;refine Calls.callWith_builtin (by show (false||(backTo cpos (starEach es X.env)).any (·.1))=false;rw[hplain]<;>rfl) (Calls.evalArgs_plain ?_);exact thn hA λus s2 ⟨vs,H2,I2,r2,q2⟩=>hm pins s2 σ H2 x vs v us Q I2 r1 r2 q2
end
def MtM(X:Cx)(id:String)(r:V->List V->Hp->VK->Prop):Prop:=
 ∀(pins:List (Addr×Obj)) (s:Shared) (σ:St) (H:Hp) (x:V) (xs:List V) (v:Value) (us:List Value) (Q:VK),Inv X pins σ H s->RelV x v->Vals xs us->r x xs H Q ->
  wpAny (model X.prog X.w) X.A (call (.builtin id) (v::us)) (EP X pins σ Q) X.xe s
theorem Vals.one:∀{x:V}{us:List Value},Vals [x] us->∃u,us=[u]/\RelV x u
 |_,_,.cons r .nil=>⟨_,rfl,r⟩
theorem Vals.zero:∀{us:List Value},Vals [] us->us=[]
 |_,.nil=>rfl
theorem Vals.dropLast{xs:List V}{us:List Value}(h:Vals xs us):Vals xs.dropLast us.dropLast:=by
 induction h with
 |nil=>exact .nil
 |cons r t ih=>
  cases t with
  |nil=>exact .nil
  |cons q t'=>exact .cons r ih
theorem Vals.eraseIdx:∀{xs:List V}{us:List Value}(i:Nat),Vals xs us->Vals (xs.eraseIdx i) (us.eraseIdx i)
 |_,_,_,.nil=>.nil
 |_,_,0,.cons _ t=>t
 |_,_,i+1,.cons r t=>.cons r (Vals.eraseIdx i t)
theorem Vals.reverse{xs:List V}{us:List Value}(h:Vals xs us):Vals xs.reverse us.reverse:=by
 induction h with
 |nil=>exact .nil
 |cons r t ih=>rw[vE,vE];exact Vals.append ih (.cons r .nil)
theorem Vals.rep{xs:List V}{us:List Value}(h:Vals xs us):∀k:Nat,Vals (List.replicate k xs).flatten (List.replicate k us).flatten
 | 0=>.nil
 |k+1=>by
  rw[List.replicate_succ,List.replicate_succ,List.flatten_cons,List.flatten_cons];exact Vals.append h (Vals.rep h k)
theorem JG(its:List Value):∀(k:Nat) (acc:List Value),
  List.foldl (λx1 x2=>x1++x2) acc.toArray (List.replicate k its.toArray)=(acc++(List.replicate k its).flatten).toArray
 | 0,acc=>by simp
 |k+1,acc=>by
  have e:acc.toArray++its.toArray=(acc++its).toArray:=by simp
  have e2:(acc++its)++(List.replicate k its).flatten=acc++(List.replicate (k+1) its).flatten:=by
   rw[List.replicate_succ,List.flatten_cons,List.append_assoc]
  rw[<-e2,<-JG its k (acc++its),<-e,List.replicate_succ,List.foldl_cons]
section
variable{X:Cx}{pins:List (Addr×Obj)}{σ:St}{H:Hp}{s:Shared}{l b:Addr}{xs ys zs:List V}
theorem Inv.lset{its its':List Value}{n:Nat}{f:Array Value->Array Value}{t':Nat}(I:Inv X pins σ H s)(hH:H l=some (.lst xs))
  (e:s.heap.get? l=some { cls:=.type "list",data:=.seq its.toArray n }) (hf:f its.toArray=its'.toArray) (hv:Vals ys its') (hz:ys.length<=sizeLine):
  Inv X pins σ (upd H l (.lst ys)) { s with heap:=s.heap.update l (Obj.mapSeq f),toks:=t' }:=by
 have q:=PySem.IsL.update e f;rw[hf]at q;refine I.write (x:=l) (e:=l) (by rw[hH];exact trivial) (.inl rfl) (λb' u hb hu=>(Heap.get?_update_other s.heap (Obj.mapSeq f) (Ne.symm hb)).trans hu) ⟨_,q⟩ ?_;exact⟨hz,its',_,hv,q⟩
theorem Inv.lnew{its:List Value}{t':Nat}(I:Inv X pins σ H s)(hv:Vals ys its)(hz:ys.length<=sizeLine):
  Inv X pins σ (upd H s.heap.objs.size (.lst ys)) { s with heap:=s.heap.push { cls:=.type "list",data:=.seq its.toArray },toks:=t' }:=
 I.laid (λ_ _ q=>Heap.get?_push_of_some _ q) (wF _) ⟨hz,its,0,hv,Heap.get?_push_size _ rfl⟩
theorem Inv.fresh(I:Inv X pins σ H s):H s.heap.objs.size=none:=I.hok.fresh (wF _)
theorem Inv.lstM(I:Inv X pins σ H s)(hH:H l=some (.lst xs)):xs.length<=sizeLine/\∃(its:List Value) (n:Nat),Vals xs its/\xs.length=its.length/\s.heap.get? l=some { cls:=.type "list",data:=.seq its.toArray n }:=by
 obtain⟨z,its,n,r,e⟩:=I.hok l _ hH;exact⟨z,its,n,r,r.length,e⟩
theorem i5{n:Nat}(h:n<=sizeLine):Builtin.List.listTooLong n=false:=by
 unfold Builtin.List.listTooLong;exact vh (by omega)
end
section
variable{X:Cx}
def qAz:V->List V->Hp->VK->Prop:=λx vs H Q=>∃l xs y,x=.ref l/\vs=[y]/\H l=some (.lst xs)/\xs.length<sizeLine/\Q .non (upd H l (.lst (xs++[y])))
theorem mt_append:MtM X "list.append" qAz:=by
 intro pins s σ H x vs v us Q I rx rv h;obtain⟨l,xs,y,rfl,rfl,hH,hz,q⟩:=h;cases rx;obtain⟨u,rfl,ru⟩:=rv.one;obtain⟨z,its,n,r,hl,e⟩:=I.lstM hH;refine call_meets F.slot_list_append ⟨_,e,rfl⟩ F.entry_list_append (F.args_list_append_2 _ _) (PySem.list_append l its.toArray n u (by rw[wL];omega)) ⟨e,?_⟩;refine⟨.non,_,I.lset (its':=its++[u]) hH e (by simp) (r.append (.cons ru .nil)) ?_,rfl,q⟩;rw[wX,List.length_singleton];omega
noncomputable def rCat:R2:=λx y H Q=>∃l b xs zs,x=.ref l/\y=.ref b/\H l=some (.lst xs)/\H b=some (.lst zs)/\xs.length+zs.length<=sizeLine/\∀p,H p=none->Q (.ref p) (upd H p (.lst (xs++zs)))
theorem op_cat:OpR X (binaryOp .Add) rCat:=by
 intro pins s σ H x y v u Q I rx ry h;obtain⟨l,b,xs,zs,rfl,rfl,hH,hB,hz,q⟩:=h;cases rx;cases ry;obtain⟨z,its,n,r,hl,e⟩:=I.lstM hH;obtain⟨z2,its2,n2,r2,hl2,e2⟩:=I.lstM hB;refine PySem.P.add_list e e2 ?_ (by rw[wL,wL];omega);have ea:its.toArray++its2.toArray=(its++its2).toArray:=by simp
 rw[ea];exact⟨.ref _,_,I.lnew (t':=s.toks) (r.append r2) (by rw[wX];omega),rfl,q _ I.fresh⟩
noncomputable def rRep:R2:=λx y H Q=>∃l k xs,x=.ref l/\y=.int k/\H l=some (.lst xs)/\-(2 ^ 63)<=k/\k<2 ^ 63/\xs.length*k.toNat<=sizeLine/\
 ∀p,H p=none->Q (.ref p) (upd H p (.lst (List.replicate k.toNat xs).flatten))
theorem qAx{α:Type}(xs:List α)(k:Nat):(List.replicate k xs).flatten.length=k*xs.length:=by
 induction k with
 |zero=>simp
 |succ k ih=>rw[List.replicate_succ,List.flatten_cons,wX,ih,Nat.succ_mul,Nat.add_comm]
theorem op_rep:OpR X (binaryOp .Mult) rRep:=by
 intro pins s σ H x y v u Q I rx ry h;obtain⟨l,k,xs,rfl,rfl,hH,h1,h2,hz,q⟩:=h;cases rx;obtain⟨t,rfl⟩:=ry;obtain⟨z,its,n,r,hl,e⟩:=I.lstM hH;have hlen:its.toArray.size*k.toNat<=sizeLine:=by rw[wL,<-hl];exact hz
 have hcap:¬ its.toArray.size*k.toNat>(2 ^ 63-1) / 8:=by
  have:(sizeLine:Nat)<=(2 ^ 63-1) / 8:=by decide
  omega
 have hfit:¬ (!Builtin.List.listFitsIndex k)=true:=by
  rw[fitsIndex_both h1 h2];exact wm
 have hlong:¬ Builtin.List.listTooLong (its.toArray.size*k.toNat)=true:=by
  rw[i5 hlen];exact wm
 have hnew:List.foldl (λx1 x2=>x1++x2) #[] (List.replicate (if its.toArray.isEmpty=true then 0 else k.toNat) its.toArray)=(List.replicate k.toNat its).flatten.toArray:=by
  have f0:∀m:Nat,List.foldl (λx1 x2=>x1++x2) #[] (List.replicate m its.toArray)=(List.replicate m its).flatten.toArray:=λm=>by
   have:=JG its m [];rw[List.nil_append]at this;exact this
  rw[f0];cases its with
  |nil=>simp
  |cons a r'=>rw[if_neg (by simp)]
 refine wpAny_binaryOp_repeat_ref (T:="list") (U:="int") (by decide) ⟨_,e,rfl⟩ (λs'=>typeIs_int s' k t) noFill_list_mul F.fills_int_mul F.slot_int_rmul repeat_list F.slot_int_index.lookup
  (call_meets F.slot_int_rmul (typeIs_int s k t) F.entry_int_rmul (F.args_int_rmul_2 _ _) (int___rmul___int_list k t l its.toArray n)
   ⟨e,rfl,⟨_,e,rfl⟩,call_meets F.slot_list_mul ⟨_,e,rfl⟩ F.entry_list_mul (F.args_list_mul_2 _ _) (AutoListH.list___mul___list_int_3 l its.toArray n k t hfit hcap hlong) ⟨e,?_⟩⟩)
 rw[hnew];exact⟨.ref _,_,I.lnew (t':=s.toks) (r.rep k.toNat) (by rw[qAx,Nat.mul_comm];exact hz),rfl,q _ I.fresh⟩
end
end _L
namespace Att
open PySem PySem.W PySem.Calls PyProof.Rows
theorem Qm{P:Params}{h:Heap}:∀(ns:List Int) (vs:List Value),WellAll P h vs (ns.map WData.int)->IntsAre vs ns:=by
 intro ns
 induction ns with
 |nil=>
  intro vs w;rw[List.map_nil]at w;cases w;exact .nil
 |cons n ns ih=>
  intro vs w;rw[List.map_cons]at w;cases w with
  |cons a b=>
   cases a;exact .cons _ _ (ih _ b)
theorem X7{l:OpenLaw}{n:Nat}(hn:l.most=some n){P:Params}{h:Heap}{args:List WData}{vals:List Value}
  (hpre:l.row.toRowW.claim.pre args=true) (hwl:WellAll P h vals args):
  ∃a vs ns,vals=[Value.ref a]/\args=[WData.list (ns.map WData.int)]/\h.get? a=some { cls:=.type "list",data:=.seq vs.toArray }/\IntsAre vs ns/\ns.length<=n:=by
 have hsh:WShape.hasAll [] args [.list .int]=true:=(pre_splitW hpre).1;have hc:l.pre.holds [] { args:=args }=true:=(pre_splitW hpre).2;obtain⟨d,r,rfl,h1,h2⟩:=hasAllW_cons hsh;obtain rfl:=hasAllW_nil h2;obtain⟨xs,rfl,h3⟩:=hasW_list h1;obtain⟨ns,rfl⟩:=items_int h3;have hlen:ns.length<=n:=by
  unfold OpenLaw.pre at hc;have h4:(WTm.not (.lt (.lit (.int (n:Int))) (.len (.arg 0)))).holds [] { args:=[.list (ns.map .int)] }=true:=by
   have h4:=(holds_andW hc).1;rw[hn]at h4;exact h4
  have h5:=condW_of h4 (w_not (w_lt w_lit (w_len_list (w_arg rfl))));rw[wG]at h5;refine Nat.le_of_not_lt λq=>?_;have q':(n:Int)<((ns.length:Nat):Int):=by omega
  first
   | (rw[vi q']at h5;exact absurd h5 (by decide))
   | (simp at h5;omega)
 cases hwl with
 |cons w1 w2=>
  cases w2;cases w1 with
  |list ho hall=>exact⟨_,_,ns,rfl,rfl,ho,Qm ns _ hall,hlen⟩
theorem X2(l:OpenLaw)(args:List WData):l.row.toRowW.claim.post args (.bool true) args=true:=
 postW_of (r:=l.row.toRowW) (X:=(true==true))
  (show WShape.has [] (.bool true) .bool=true by first|rfl|decide|simp[WShape.has,WShape.arms,WShape.armsAll])
  (show (WTm.eq .res (.lit (.bool true))).value [] { args:=args,res:=some (.bool true),after:=args }=some (.bool (true==true)) from w_eq_bool (w_res rfl) w_lit) rfl
theorem attach_call{l:OpenLaw}{n:Nat}{q:Program}{loose:List Str}{XP:(Str->Option Value)->Heap->Prop}{YP:World->Heap->Prop}{d:DefRec}
  (hn:l.most=some n) (hdf:d.params.defaults=[])
  (call:∀(w:World) (s₀ s₁:Shared) (mg mb:Str->Option Value) (fa:Addr) (o:Obj) (pm cd doc:Value) (a:Addr) (vs:List Value) (ns:List Int),
   Ground q loose [] XP w s₀ mg mb s₁.heap->YP w s₁.heap ->
   s₁.heap.get? fa=some o->o.data=.func (docDef d.name d.params d.body d.scope pm cd doc)->s₁.heap.CodeRec cd d.name->mg d.name=some (.ref fa) ->
   s₁.heap.get? a=some { cls:=.type "list",data:=.seq vs.toArray }->IntsAre vs ns->ns.length<=n->s₁.gens=#[] ->
   codeAny (model l.prog w) callerA (.call (.ref fa) ⟨[.ref a],[]⟩) (λr s'=>r=.ok (.ret (.bool true))/\OldK s₁.heap s'.heap/\s'.os=s₁.os/\AllBare s'.gens) s₁):
  WalkO q loose XP YP l.row.toRowW d [] (λf vs=>PySem.call f vs):=by
 intro w s₀ s₁ mg mb G Y fa o pm cd doc dV kV ho hd hcd hD hmg hg args vals as hpre hlay hrd hwl hlo;obtain rfl:dV=.none:=Dflts.none hD hdf;obtain rfl:kV=.none:=Dflts.noKw hD;obtain⟨a,vs,ns,rfl,rfl,hobj,hints,hlen⟩:=X7 hn hpre hwl;refine enter_call (codeAny_mono (call w s₀ s₁ mg mb fa o pm cd doc a vs ns G Y ho (fd_plain hd) hcd hmg hobj hints hlen hg) λr s' hq=>?_);obtain⟨rfl,h2,h3,h4⟩:=hq;exact⟨.inl ⟨.bool true,.bool true,[],rfl,λ_=>rfl,.bool true,X2 l _,λ_=>⟨List.Pairwise.nil,λ_ hm=>(nomatch hm)⟩⟩,h2,h3,h4⟩
end Att
namespace _L
open PySem PySem.Spec PyProof.Rows
theorem zY:∀{vs:List Value}{ns:List Int},IntsAre vs ns->Vals (ns.map V.int) vs
 |_,_,.nil=>.nil
 |_,_,.cons n t h=>.cons ⟨t,rfl⟩ (zY h)
def Only(H:Hp):Prop:=∀b,H b=none\/∃o xs,H b=some (.frz o (.lst xs))
theorem j2{P:Program}{w:World}{K:PySem.W.Frag}{mg mb:Str->Option Value}{CX:CXT}{k:Nat}{fa a:Addr}{fd:FuncData}{x:Str}{sp:Sp}{s₁:Shared}{vs:List Value}{ns:List Int}
  (KX:K.In s₁.heap) (hns:s₁.heap.Ns mainGlobals mg) (hb:s₁.heap.Ns builtinsNs mb) (hbb:∀x:Str,x≠"__name__" -> mb x=bootBuiltins x) (hlim:s₁.heap.NoLimit) (hg:s₁.gens=#[])
  (ha:s₁.heap.get? a=some { cls:=.type "list",data:=.seq vs.toArray }) (hi:IntsAre vs ns) (hl:ns.length<=sizeLine) (hr:Room k callerA)
  (F:∀base:Heap,K.In base->base.Ns mainGlobals mg->FnOk P w K mg base CX k fa fd [x] sp) (hbind:∀(s:Shared) (u:Value),BindsTo s fd ⟨[u],[]⟩ [(x,u)])
  (hsp:∀H:Hp,Only H->SqL K H a (ns.map V.int)->sp [.ref a] H (λv _=>v=.bl true) λ_ _ _=>False)
  (hCX:∀H e s',CX [] H s₁ (λ_ _ _=>False) e s'->False):
  codeAny (model P w) callerA (.call (.ref fa) ⟨[.ref a],[]⟩) (λr s'=>r=.ok (.ret (.bool true))/\OldK s₁.heap s'.heap/\s'.os=s₁.os/\AllBare s'.gens) s₁:=by
 have rv:=zY hi;have lenV:=hi.length;have core:∀H:Hp,Only H->SqL K H a (ns.map V.int)->HOk P w H s₁.heap->(∀b,H b≠none->b=a)->(H a≠none->K.lookup a=none) ->
   codeAny (model P w) callerA (.call (.ref fa) ⟨[.ref a],[]⟩) (λr s'=>r=.ok (.ret (.bool true))/\OldK s₁.heap s'.heap/\s'.os=s₁.os/\AllBare s'.gens) s₁:=by
  intro H hO hS hok hA hK;have base_of:∀{b:Addr}{o:Obj},s₁.heap.get? b=some o->H b=none->(f9 s₁.heap H).get? b=some o:=λe n=>d9 e n;have noA:∀{b:Addr}{o:Obj}{es:Array DictEntry}{ep:Nat},s₁.heap.get? b=some o->o.data=.dict es ep->H b=none:=λ{b o es ep} e d=>by
   cases q:H b with
   |none=>rfl
   |some u=>
    have e':b=a:=hA b (by rw[q];simp);subst e';rw[ha]at e;cases e;have d':Data.seq vs.toArray _=Data.dict es ep:=d;cases d'
  have nsK:∀{b:Addr}{m:Str->Option Value},s₁.heap.Ns b m->(f9 s₁.heap H).Ns b m:=λ{b m} ⟨o,es,ep,e,d,r⟩=>⟨o,es,ep,base_of e (noA e d),d,r⟩
  have hKb:K.In (f9 s₁.heap H):=λb o e=>base_of (KX b o e) (by
   cases q:H b with
   |none=>rfl
   |some u=>
    have e':b=a:=hA b (by rw[q];simp);subst e';rw[hK (by rw[q];simp)]at e;cases e)
  have hM:Mod K mg (f9 s₁.heap H):=⟨hKb,nsK hns,⟨mb,nsK hb,hbb⟩,let ⟨mc,h1,h2⟩:=hlim;⟨mc,nsK h1,h2⟩⟩
  have e0:Env0 P w K mg (f9 s₁.heap H) callerA [] s₁ H:=⟨rfl,hM,λb o e=>qAw e,Nat.le_of_eq (P1 _ _),trivial,λb hb=>absurd (show b∈([]:List Addr) from hb) (by simp),hok,.of_eq hg⟩
  refine codeAny_mono ((F _ hKb (nsK hns)).run callerA [] s₁ H ⟨[.ref a],[]⟩ [.ref a] [.ref a] _ _ hr e0 (hbind s₁ (.ref a)) (.cons rfl .nil) (hsp H hO hS)) λr s' h=>?_;cases r with
  |error e=>exact(hCX H e s' h).elim
  |ok fl=>
   cases fl with
   |next=>exact False.elim h
   |brk=>exact False.elim h
   |cont=>exact False.elim h
   |ret u=>
    obtain⟨v,H',os,bare,un,hok',r',q⟩:=h;have q':v=.bl true:=q;subst q';obtain rfl:u=Value.bool true:=r';refine⟨rfl,OldK.of_keep λb o e=>?_,os,bare⟩;cases q:H b with
    |none=>exact un.keep b o e q (by intro z;exact absurd (show b∈([]:List Addr) from z) (by simp)) (by simp)
    |some u=>
     rcases hO b with z|⟨ob,xs,z⟩
     ·rw[q]at z;cases z
     ·have z2:=un.frzs b ob _ z;obtain⟨e1,_⟩:=hok b _ z;obtain⟨e2,_⟩:=hok' b _ z2;rw[e]at e1;cases e1;exact e2
 cases hk:K.lookup a with
 |some o=>
  have e:=KX a o hk;rw[ha]at e;cases e;refine core (λ_=>none) (λ_=>.inl rfl) (.inr ⟨_,vs.toArray,_,hk,rfl,rfl,rfl,by rw[wL,lenV];exact hl,by simpa using rv⟩) (λb u z=>by have z':(none:Option HO)=some u:=z;cases z') (λb z=>absurd rfl z) λz=>absurd rfl z
 |none=>
  refine core (λb=>if b=a then some (.frz { cls:=.type "list",data:=.seq vs.toArray } (.lst (ns.map V.int))) else none) (λb=>?_) (.inl (.inr ⟨{ cls:=.type "list",data:=.seq vs.toArray },if_pos rfl⟩)) (λb u z=>?_) (λb z=>?_) λ_=>hk
  ·by_cases hb:b=a
   ·exact .inr ⟨_,_,if_pos hb⟩
   ·exact .inl (if_neg hb)
  ·by_cases hb:b=a
   ·have z':=(if_pos hb).symm.trans z;cases z';subst hb;exact⟨ha,by rw[wG];exact hl,vs,_,rv,ha⟩
   ·have z':=(if_neg hb).symm.trans z;cases z'
  ·by_cases hb:b=a
   ·exact hb
   ·exact absurd (if_neg hb) z
theorem walk_of{l:PySem.W.OpenLaw}{n k:Nat}{q:Program}{loose:List Str}{XP:(Str->Option Value)->Heap->Prop}{YP:World->Heap->Prop}{d:DefRec}{K:Params->PySem.W.Frag}{CX:World->CXT}{sp:World->Sp}{x:Str}
  (hn:l.most=some n) (hn2:n<=sizeLine) (hdf:d.params.defaults=[]) (hr:Room k callerA)
  (hY:∀(w:World) (h:Heap),YP w h->(K w.params).In h)
  (F:∀(w:World) (mg:Str->Option Value) (fa:Addr) (h:Heap),(K w.params).In h->h.Ns mainGlobals mg->mg d.name=some (.ref fa) ->
   ∃fd:FuncData,(∀(s:Shared) (u:Value),BindsTo s fd ⟨[u],[]⟩ [(x,u)])/\
    ∀base:Heap,(K w.params).In base->base.Ns mainGlobals mg->FnOk l.prog w (K w.params) mg base (CX w) k fa fd [x] (sp w))
  (hsp:∀(w:World) (H:Hp) (a:Addr) (ns:List Int),ns.length<=n->Only H->SqL (K w.params) H a (ns.map V.int)->sp w [.ref a] H (λv _=>v=.bl true) λ_ _ _=>False)
  (hCX:∀(w:World) (H:Hp) (s:Shared) (e:Value) (s':Shared),CX w [] H s (λ_ _ _=>False) e s'->False):
  PySem.W.WalkO q loose XP YP l.row.toRowW d [] (λf vs=>PySem.call f vs):=by
 refine Att.attach_call hn hdf λw s₀ s₁ mg mb fa o pm cd doc a vs ns G Y ho hd hcd hmg hobj hints hlen hg=>?_;have KX:=hY w _ Y;obtain⟨fd,hb,hF⟩:=F w mg fa _ KX G.T.g hmg;exact j2 KX G.T.g G.T.b G.T.builtins G.T.nolimit hg hobj hints (wM hlen hn2) hr hF hb (λH hO hS=>hsp w H a ns hlen hO hS) λH e s'=>hCX w H s₁ e s'
noncomputable def zX(s:Stmt):Arguments:=match s with
 | .FunctionDef _ a _ _ _ _ _ _ _ _=>a
 |_=>{ posonlyargs:=[],args:=[],vararg:=none,kwonlyargs:=[],kw_defaults:=[],kwarg:=none,defaults:=[] }
noncomputable def defBody(s:Stmt):List Stmt:=match s with
 | .FunctionDef _ _ b _ _ _ _ _ _ _=>b
 |_=>[]
noncomputable def defScope(s:Stmt):Scope:=match s with
 | .FunctionDef _ _ _ _ _ _ sc _ _ _=>sc
 |_=>{ kind:=.function,names:=[],isGenerator:=false,isCoroutine:=false }
noncomputable abbrev CX0:CXT:=λ_ _ _ _ _ _=>False
noncomputable abbrev E0:XK:=λ_ _ _=>False
theorem pass0{X:Cx}:F6 CX0 X E0:=λ_ _ _ _ _ _ _ h=>h.elim
structure Fun(K:PySem.W.Frag)(x qual:Str)(st:Stmt)(f:Addr)(fd:FuncData):Prop where
 ex:∃(oc:Value) (od:Option Addr) (kV doc pm:Value) (an:Option Addr) (cdv ct:Value) (osl:Array (Option Value)),
  fd=PySem.W.fnOf x qual (zX st) (defBody st) (defScope st) .none kV doc pm an cdv ct/\K.lookup f=some ⟨oc,od,.func fd,osl⟩/\PySem.W.codeIn K cdv qual=true
 kp:PySem.W.keepIn K (.ref f)=true
section
variable{P:Program}{w:World}{K:PySem.W.Frag}{mg:Str->Option Value}{base:Heap}
theorem Fun.ok{x qual:Str}{st:Stmt}{f:Addr}{fd:FuncData}{N ps:List Str}{k:Nat}{sp:Sp}(F:Fun K x qual st f fd)(S:zN N ps (defScope st))(len:∀vs H Q E,sp vs H Q E->vs.length=ps.length)
  (hbody:∀(cdv:Value) (A:Around) (outer:List Env) (s:Shared) (H:Hp) (vs:List V) (Q:VK) (E:XK),Room k (A.deeper (envOfC qual (defScope st) s.heap.objs.size f cdv))->sp vs H Q E ->
   ∃t,PSs (cxOf CX0 P w K mg base N qual (defScope st) f cdv A outer s H E).nox (defBody st) t/\t { nx:=λ_ H'=>Q .non H',rt:=Q } (start N vs) H):FnOk P w K mg base CX0 (k+1) f fd ps sp:=by
 obtain⟨oc,od,kV,doc,pm,an,cdv,ct,osl,rfl,lk,hcd⟩:=F.ex;refine qED lk hcd S len λA outer s H vs Q E hr hsp=>?_;obtain⟨t,h,q⟩:=hbody cdv A outer s H vs Q E hr hsp;exact⟨t,h.nox,q⟩
theorem Fun.binds{x qual:Str}{st:Stmt}{f:Addr}{fd:FuncData}{ps:List Str}(F:Fun K x qual st f fd)
  (h:∀(kV doc pm:Value) (an:Option Addr) (cdv ct:Value) (us:List Value),us.length=ps.length->bindArgs (PySem.W.fnOf x qual (zX st) (defBody st) (defScope st) .none kV doc pm an cdv ct) ⟨us,[]⟩=pure (ps.zip us)):Binds K fd ps []:=by
 obtain⟨oc,od,kV,doc,pm,an,cdv,ct,osl,rfl,lk,hcd⟩:=F.ex;exact .all (h kV doc pm an cdv ct)
theorem u9{x qual:Str}{st:Stmt}{f:Addr}{oc:Value}{od an:Option Addr}{osl:Array (Option Value)}{kV doc pm cdv ct:Value}(l:K.lookup f=some ⟨oc,od,.func (PySem.W.fnOf x qual (zX st) (defBody st) (defScope st) .none kV doc pm an cdv ct),osl⟩)
  (c:PySem.W.codeIn K cdv qual=true) (k:PySem.W.keepIn K (.ref f)=true):Fun K x qual st f (PySem.W.fnOf x qual (zX st) (defBody st) (defScope st) .none kV doc pm an cdv ct):=⟨⟨oc,od,kV,doc,pm,an,cdv,ct,osl,rfl,l,c⟩,k⟩
end
def QY(H H':Hp):Prop:=∀b o,H b=some o->H' b=some o
section
variable{κ:Type}[DecidableEq κ]
noncomputable def valV(kvs:List (κ×V))(k:κ):Option V:=(kvs.find? λkv=>decide (kv.1=k)).map (·.2)
noncomputable def putK(kvs:List (κ×V))(k:κ)(v:V):List (κ×V):=
 if (kvs.any λkv=>decide (kv.1=k))=true then kvs.map (λkv=>if kv.1=k then (kv.1,v) else kv) else kvs++[(k,v)]
noncomputable def qBZ(kvs:List (κ×V))(k:κ):List (κ×V):=kvs.filter λkv=>decide (kv.1≠k)
theorem ZY{p:κ×V}{r:List (κ×V)}{k:κ}(e:p.1=k):valV (p::r) k=some p.2:=by simp[valV,List.find?_cons,e]
theorem Zu{p:κ×V}{r:List (κ×V)}{k:κ}(e:¬ p.1=k):valV (p::r) k=valV r k:=by simp[valV,List.find?_cons,e]
theorem valV_any(k:κ):∀kvs:List (κ×V),(kvs.any λkv=>decide (kv.1=k))=(valV kvs k).isSome
 | []=>rfl
 |p::r=>by
  rw[List.any_cons];by_cases e:p.1=k
  ·simp only[ZY e,vi e,Bool.true_or,Option.isSome_some]
  ·rw[Zu e,vh e,Bool.false_or];exact valV_any k r
theorem Qh(kvs:List (κ×V))(k:κ)(v:V):(putK kvs k v).length<=kvs.length+1:=by
 unfold putK;split
 ·rw[wG];omega
 ·rw[wX,List.length_cons,List.length_nil];omega
theorem RelO.isSome_eq{o:Option V}{u:Option Value}(r:RelO o u):o.isSome=u.isSome:=by
 cases o with
 |none=>cases u with
  |none=>rfl
  |some _=>exact(show False from r).elim
 |some _=>cases u with
  |none=>exact(show False from r).elim
  |some _=>rfl
theorem RelO.getD{o:Option V}{u:Option Value}{d:V}{d':Value}(r:RelO o u)(rd:RelV d d'):RelV (o.getD d) (u.getD d'):=by
 cases o with
 |none=>cases u with
  |none=>exact rd
  |some _=>exact(show False from r).elim
 |some _=>cases u with
  |none=>exact(show False from r).elim
  |some _=>exact r
theorem KV.val{kvs:List (κ×V)}{vs:List (κ×Value)}(r:KV kvs vs)(k:κ):RelO (valV kvs k) (valueAt vs k):=by
 unfold KV at r
 induction r with
 |nil=>exact True.intro
 | @cons p q ps qs h t ih=>
  obtain⟨h1,h2⟩:=h;by_cases e:p.1=k
  ·have e':q.1=k:=h1.symm.trans e;have b:valueAt (q::qs) k=some q.2:=by simp[valueAt,List.find?_cons,e']
   rw[ZY e,b];exact h2
  ·have e':¬ q.1=k:=λz=>e (h1.trans z);have b:valueAt (q::qs) k=valueAt qs k:=by simp[valueAt,List.find?_cons,e']
   rw[Zu e,b];exact ih
theorem KV.any{kvs:List (κ×V)}{vs:List (κ×Value)}(r:KV kvs vs)(k:κ):(kvs.any λkv=>decide (kv.1=k))=vs.any λkv=>decide (kv.1=k):=by
 unfold KV at r
 induction r with
 |nil=>rfl
 |cons h t ih=>rw[List.any_cons,List.any_cons,ih,h.1]
theorem KV.repl{kvs:List (κ×V)}{vs:List (κ×Value)}(r:KV kvs vs)(k:κ){y:V}{u:Value}(ry:RelV y u):
  KV (kvs.map λkv=>if kv.1=k then (kv.1,y) else kv) (vs.map λkv=>if kv.1=k then (kv.1,u) else kv):=by
 unfold KV at r ⊢
 induction r with
 |nil=>exact .nil
 | @cons p q ps qs h t ih=>
  rw[List.map_cons,List.map_cons];refine .cons ?_ ih;obtain⟨h1,h2⟩:=h;by_cases e:p.1=k
  ·rw[if_pos e,if_pos (h1.symm.trans e)];exact⟨h1,ry⟩
  ·rw[if_neg e,if_neg (λz=>e (h1.trans z))];exact⟨h1,h2⟩
theorem KV.put{kvs:List (κ×V)}{vs:List (κ×Value)}(r:KV kvs vs)(k:κ){y:V}{u:Value}(ry:RelV y u):KV (putK kvs k y) (stored vs k u):=by
 unfold putK stored;rw[r.any k];by_cases e:(vs.any λkv=>decide (kv.1=k))=true
 ·rw[if_pos e,if_pos e];exact r.repl k ry
 ·rw[if_neg e,if_neg e];exact Paired.snoc r ⟨rfl,ry⟩
theorem KV.drop{kvs:List (κ×V)}{vs:List (κ×Value)}(r:KV kvs vs)(k:κ):KV (qBZ kvs k) (without vs k):=by
 unfold KV at r ⊢;unfold qBZ without
 induction r with
 |nil=>exact .nil
 | @cons p q ps qs h t ih=>
  obtain⟨h1,h2⟩:=h;rw[List.filter_cons,List.filter_cons];by_cases e:p.1=k
  ·have a:¬ decide (p.1≠k)=true:=by simp[e]
   have b:¬ decide (q.1≠k)=true:=by simp[h1.symm.trans e]
   rw[if_neg a,if_neg b];exact ih
  ·have e':¬ q.1=k:=λz=>e (h1.trans z);have a:decide (p.1≠k)=true:=by simp[e]
   have b:decide (q.1≠k)=true:=by simp[e']
   rw[if_pos a,if_pos b];exact .cons ⟨h1,h2⟩ ih
theorem KV.length{kvs:List (κ×V)}{vs:List (κ×Value)}(r:KV kvs vs):kvs.length=vs.length:=Paired.length r
end
theorem Z7{P:Program}{w:World}{k:Key}{u:Value}(r:RelV (kV k) u):(qq P w).is k u=true:=by
 cases k with
 |inl i=>obtain⟨t,e⟩:=(show ∃t,u=Value.int i t from r);subst e;exact C0 P w i t
 |inr x=>obtain⟨t,e⟩:=(show ∃t,u=Value.str x t from r);subst e;exact Jl P w x t
theorem JT{P:Program}{w:World}:∀{ks:List Key}{us:List Value},Vals (ks.map kV) us->ItemsAre (qq P w) ks us
 | [],_,r=>by rw[List.map_nil]at r;cases r;exact .nil
 |k::ks,_,r=>by
  rw[List.map_cons]at r;cases r with
  |cons h t=>exact .cons (Z7 h) (JT t)
abbrev KT(H:Hp):List (List Key×V)->List (List Key×Addr×Value)->Prop:=Paired λp q=>p.1=q.1/\H q.2.1=some (.tup (p.1.map kV))/\RelV p.2 q.2.2
theorem KT.val{H:Hp}{kvs:List (List Key×V)}{xs:List (List Key×Addr×Value)}(r:KT H kvs xs)(k:List Key):RelO (valV kvs k) ((atKey xs k).map (·.2)):=by
 induction r with
 |nil=>exact True.intro
 | @cons p q ps qs h t ih=>
  obtain⟨h1,_,h2⟩:=h;by_cases e:p.1=k
  ·have e':q.1=k:=h1.symm.trans e;have b:atKey (q::qs) k=some q.2:=by simp[atKey,List.find?_cons,e']
   rw[ZY e,b];exact h2
  ·have e':¬ q.1=k:=λz=>e (h1.trans z);have b:atKey (q::qs) k=atKey qs k:=by simp[atKey,List.find?_cons,e']
   rw[Zu e,b];exact ih
theorem KT.repl{H:Hp}{kvs:List (List Key×V)}{xs:List (List Key×Addr×Value)}(r:KT H kvs xs)(k:List Key){y:V}{u:Value}(ry:RelV y u):
  KT H (kvs.map λkv=>if kv.1=k then (kv.1,y) else kv) (xs.map (putAt k u)):=by
 induction r with
 |nil=>exact .nil
 | @cons p q ps qs h t ih=>
  rw[List.map_cons,List.map_cons];refine .cons ?_ ih;obtain⟨h1,h2,h3⟩:=h;unfold putAt;by_cases e:p.1=k
  ·rw[if_pos e,if_pos (h1.symm.trans e)];exact⟨h1,h2,ry⟩
  ·rw[if_neg e,if_neg (λz=>e (h1.trans z))];exact⟨h1,h2,h3⟩
theorem KT.put{H:Hp}{kvs:List (List Key×V)}{xs:List (List Key×Addr×Value)}(r:KT H kvs xs)(k:List Key){b:Addr}{y:V}{u:Value}(hb:H b=some (.tup (k.map kV)))(ry:RelV y u):
  KT H (putK kvs k y) (storedH xs k b u):=by
 have e:(kvs.any λkv=>decide (kv.1=k))=(atKey xs k).isSome:=by
  rw[valV_any,(r.val k).isSome_eq,Option.isSome_map]
 unfold putK storedH;rw[e];by_cases q:(atKey xs k).isSome=true
 ·rw[if_pos q,if_pos q];exact r.repl k ry
 ·rw[if_neg q,if_neg q];exact Paired.snoc r ⟨rfl,hb,ry⟩
theorem KT.keeps{H H':Hp}{kvs:List (List Key×V)}{xs:List (List Key×Addr×Value)}(r:KT H kvs xs)(ht:∀b ys,H b=some (.tup ys)->H' b=some (.tup ys)):KT H' kvs xs:=
 Paired.mapP r λ_ _ z=>⟨z.1,ht _ _ z.2.1,z.2.2⟩
section
variable{P:Program}{w:World}{H:Hp}{h:Heap}{a:Addr}
theorem qCb{u:HO}(ok:HOk P w H h)(e:Rd H a u):ObjOk P w H h a u:=e.ok ok
theorem qAd{kvs:List (Key×V)}(ok:HOk P w H h)(e:Rd H a (.dK kvs)):kvs.length<=sizeLine/\(a==sysModules)=false/\∃vs,KV kvs vs/\h.DictOf (qq P w) a vs:=
 show ObjOk P w H h a (.dK kvs) from qCb ok e
theorem qD0{kvs:List (Key×V)}(ok:HOk P w H h)(e:H a=some (.dK kvs)):kvs.length<=sizeLine/\(a==sysModules)=false/\∃vs,KV kvs vs/\h.DictOf (qq P w) a vs:=qAd ok (.inl e)
theorem D7{ks:List Key}(ok:HOk P w H h)(e:H a=some (.tup (ks.map kV))):(tupleKind (qq P w)).is h ks a:=by
 obtain⟨_,its,r,o,h1,h2,n,h3⟩:=(show ObjOk P w H h a (.tup (ks.map kV)) from ok a _ e)
 exact⟨o,its.toArray,n,h1,h2,h3,by simpa using JT r⟩
theorem qAP{kvs:List (List Key×V)}(ok:HOk P w H h)(e:Rd H a (.dT kvs)):kvs.length<=sizeLine/\(a==sysModules)=false/\
  ∃xs,KT H kvs xs/\h.DictOfH (tupleKind (qq P w)) a xs:=by
 obtain⟨z,y,xs,r,o,es,ep,h1,h2,h3,h4,h5⟩:=(show ObjOk P w H h a (.dT kvs) from qCb ok e)
 refine⟨z,y,xs,r,o,es,ep,h1,h2,h3,h4,λx hx=>?_,h5⟩;have all:∀{l:List (List Key×V)}{m:List (List Key×Addr×Value)},KT H l m->∀x∈m,(tupleKind (qq P w)).is h x.1 x.2.1:=by
  intro l m q
  induction q with
  |nil=>intro x hx;exact nomatch hx
  | @cons p q ps qs hq t ih=>
   intro x hx;rcases wI.mp hx with e|hx
   ·subst e;exact D7 ok (by rw[<-hq.1];exact hq.2.1)
   ·exact ih x hx
 exact all r x hx
theorem qEJ{kvs:List (List Key×V)}(ok:HOk P w H h)(e:H a=some (.dT kvs)):kvs.length<=sizeLine/\(a==sysModules)=false/\
  ∃xs,KT H kvs xs/\h.DictOfH (tupleKind (qq P w)) a xs:=qAP ok (.inl e)
end
def DGet(H:Hp)(a:Addr)(y:V)(r:Option V):Prop:=
 (∃kvs k,Rd H a (.dK kvs)/\y=kV k/\r=valV kvs k)\/∃kvs k b,Rd H a (.dT kvs)/\y=.ref b/\H b=some (.tup (k.map kV))/\r=valV kvs k
def DPut(H:Hp)(a:Addr)(y v:V)(H':Hp):Prop:=
 (∃kvs k,H a=some (.dK kvs)/\y=kV k/\kvs.length<sizeLine/\H'=upd H a (.dK (putK kvs k v)))\/
 ∃kvs k b,H a=some (.dT kvs)/\y=.ref b/\H b=some (.tup (k.map kV))/\kvs.length<sizeLine/\H'=upd H a (.dT (putK kvs k v))
theorem DGet.k{H:Hp}{a:Addr}{kvs:List (Key×V)}{k:Key}(e:H a=some (.dK kvs)):DGet H a (kV k) (valV kvs k):=.inl ⟨kvs,k,.inl e,rfl,rfl⟩
theorem DGet.t{H:Hp}{a b:Addr}{kvs:List (List Key×V)}{k:List Key}(e:H a=some (.dT kvs))(eb:H b=some (.tup (k.map kV))):DGet H a (.ref b) (valV kvs k):=.inr ⟨kvs,k,b,.inl e,rfl,eb,rfl⟩
theorem DPut.k{H:Hp}{a:Addr}{kvs:List (Key×V)}{k:Key}{v:V}(e:H a=some (.dK kvs))(hl:kvs.length<sizeLine):DPut H a (kV k) v (upd H a (.dK (putK kvs k v))):=.inl ⟨kvs,k,e,rfl,hl,rfl⟩
theorem DPut.t{H:Hp}{a b:Addr}{kvs:List (List Key×V)}{k:List Key}{v:V}(e:H a=some (.dT kvs))(eb:H b=some (.tup (k.map kV)))(hl:kvs.length<sizeLine):
  DPut H a (.ref b) v (upd H a (.dT (putK kvs k v))):=.inr ⟨kvs,k,b,e,rfl,eb,hl,rfl⟩
section
variable{X:Cx}{pins:List (Addr×Obj)}{σ:St}{H:Hp}{s:Shared}{a:Addr}{y v:V}{u r:Value}{o:Option V}{A:Around}{E:Value->Shared->Prop}
theorem d_in{Q:Value->Shared->Prop}(hu:A.units+1<cLine)(I:Inv X pins σ H s)(g:DGet H a y o)(ry:RelV y u)(h:∀s',Inv X pins σ H s'->Q (.bool o.isSome) s'):
  wpAny (model X.prog X.w) A (compareOp .In u (.ref a)) Q E s:=by
 rcases g with⟨kvs,k,e,ey,l⟩|⟨kvs,k,b,e,ey,eb,l⟩
 ·subst ey;obtain⟨z,hd,vs,rel,dd⟩:=qAd I.hok e;refine wpAny_in_of (Z7 ry) hd dd.mapOf ?_;rw[<-(rel.val k).isSome_eq,<-l];exact h _ (I.tok _)
 ·subst ey;cases (show u=Value.ref b from ry);obtain⟨z,hd,xs,rel,dd⟩:=qAP I.hok e;refine wpAny_in_heap (tupleKind_room_in1 hu) (D7 I.hok eb) hd dd ?_;have q:=(rel.val k).isSome_eq;rw[Option.isSome_map]at q;rw[<-q,<-l];exact h _ (I.tok _)
theorem d_notIn{Q:Value->Shared->Prop}(hu:A.units+1<cLine)(I:Inv X pins σ H s)(g:DGet H a y o)(ry:RelV y u)(h:∀s',Inv X pins σ H s'->Q (.bool (!o.isSome)) s'):
  wpAny (model X.prog X.w) A (compareOp .NotIn u (.ref a)) Q E s:=by
 rcases g with⟨kvs,k,e,ey,l⟩|⟨kvs,k,b,e,ey,eb,l⟩
 ·subst ey;obtain⟨z,hd,vs,rel,dd⟩:=qAd I.hok e;refine wpAny_notIn_of (Z7 ry) hd dd.mapOf ?_;rw[<-(rel.val k).isSome_eq,<-l];exact h _ (I.tok _)
 ·subst ey;cases (show u=Value.ref b from ry);obtain⟨z,hd,xs,rel,dd⟩:=qAP I.hok e;refine wpAny_notIn_heap (tupleKind_room_in1 hu) (D7 I.hok eb) hd dd ?_;have q:=(rel.val k).isSome_eq;rw[Option.isSome_map]at q;rw[<-q,<-l];exact h _ (I.tok _)
theorem Q3{h':Heap}{t':Nat}{ob:HO}(I:Inv X pins σ H s)(mu:Mut (H a))(hs:Heap.SameBut a s.heap h')(he:∃q,h'.get? a=some q)(new:ObjOk X.prog X.w (upd H a ob) h' a ob):
  Inv X pins σ (upd H a ob) { s with heap:=h',toks:=t' }:=
 I.write (x:=a) (e:=a) mu (.inl rfl) (λb q hb z=>(hs.2 b hb).trans z) he new
theorem qBb{P:Program}{w:World}{H':Hp}{h':Heap}{kvs:List (Key×V)}{vs:List (Key×Value)}(z:kvs.length<=sizeLine)(hd:(a==sysModules)=false)(rel:KV kvs vs)(dd:h'.DictOf (qq P w) a vs):
  ObjOk P w H' h' a (.dK kvs):=⟨z,hd,vs,rel,dd⟩
theorem d_setItem{H':Hp}{Q:Unit->Shared->Prop}(hu:A.units+1<cLine)(I:Inv X pins σ H s)(g:DPut H a y v H')(ry:RelV y u)(rv:RelV v r)(h:∀s',Inv X pins σ H' s'->Q () s'):
  wpAny (model X.prog X.w) A (setItem (.ref a) u r) Q E s:=by
 rcases g with⟨kvs,k,e,ey,l,eH⟩|⟨kvs,k,b,e,ey,eb,l,eH⟩
 ·subst ey eH;obtain⟨z,hd,vs,rel,dd⟩:=qD0 I.hok e;have hz:vs.length<=sizeLine:=by rw[<-rel.length];exact z
  have hl:(putK kvs k v).length<=sizeLine:=by have:=Qh kvs k v;omega
  refine wpAny_setItem_pairs (hsz:=hz) (Z7 ry) dd λh' dd' hs=>h _ ?_;have he:∃q,h'.get? a=some q:=let ⟨q,_,_,hq,_⟩:=dd';⟨q,hq⟩
  exact Q3 I (by rw[e];exact True.intro) hs he (qBb hl hd (rel.put k rv) dd')
 ·subst ey eH;cases (show u=Value.ref b from ry);obtain⟨z,hd,xs,rel,dd⟩:=qEJ I.hok e;have hz:xs.length<=sizeLine:=by rw[<-Paired.length rel];exact z
  have hl:(putK kvs k v).length<=sizeLine:=by have:=Qh kvs k v;omega
  refine wpAny_setItem_heap (hsz:=hz) (tupleKind_room_in1 hu) (D7 I.hok eb) dd λh' dd' hs=>h _ ?_;obtain⟨q,es,ep,hq,h2,h3,h4,_,h5⟩:=dd';refine Q3 I (by rw[e];exact True.intro) hs ⟨q,hq⟩ ⟨hl,hd,_,(rel.put k eb rv).keeps λc ys ec=>?_,q,es,ep,hq,h2,h3,h4,h5⟩;rw[qG (qD9 ec e (λz=>nomatch z))];exact ec
end
noncomputable def qB1(kvs more:List (Key×V)):List (Key×V):=more.foldl (λacc kv=>putK acc kv.1 kv.2) kvs
structure M1(X:Cx)(o:Expr)(m:Str)(apos:Pos)(e:Expr)(cpos:Pos):Prop where
 base:attributeBase o m X.env (eval o X.env)=eval o X.env
 few:((backTo cpos (starEach [e] X.env)).all (λx=>!x.1)&&(backToKw cpos (keywordEach [] X.env)).all (λx=>x.1.isSome)
  && decide (([e]:List Expr).length+([]:List Keyword).length+(if ([]:List Keyword).isEmpty then 0 else 1)<30))=true
 line:(apos.endLine==cpos.line)=true
 trees:backTo cpos (starEach [e] X.env)=[(false,eval e X.env)]
structure M2(X:Cx)(o:Expr)(m:Str)(apos:Pos)(e f:Expr)(cpos:Pos):Prop where
 base:attributeBase o m X.env (eval o X.env)=eval o X.env
 few:((backTo cpos (starEach [e,f] X.env)).all (λx=>!x.1)&&(backToKw cpos (keywordEach [] X.env)).all (λx=>x.1.isSome)
  && decide (([e,f]:List Expr).length+([]:List Keyword).length+(if ([]:List Keyword).isEmpty then 0 else 1)<30))=true
 line:(apos.endLine==cpos.line)=true
 trees:backTo cpos (starEach [e,f] X.env)=[(false,eval e X.env),(false,eval f X.env)]
end _L
set_option maxHeartbeats 4000000
namespace _L
open PySem PySem.Spec PyProof.Rows
theorem KV.len{kvs:List (Key×V)}{vs:List (Key×Value)}(r:KV kvs vs):vs.length=kvs.length:=(Paired.length r).symm
theorem KV.key{kvs:List (Key×V)}{vs:List (Key×Value)}(r:KV kvs vs){i:Nat}{k:Key×V}(e:kvs[i]?=some k):∃v,vs[i]?=some (k.1,v):=by
 induction r generalizing i with
 |nil=>simp at e
 |cons h t ih=>
  cases i with
  |zero=>cases e;exact⟨_,by rw[List.getElem?_cons_zero];congr 1;exact Prod.ext h.1.symm rfl⟩
  |succ i=>exact ih (by simpa using e)
noncomputable def N8(cells:List (Str×Addr)):List (Str×NameKind)->List (Str×Addr)->List (Str×Addr)
 | [],cs=>cs
 | (n,k)::r,cs=>N8 cells r (if k=.free then (match cells.lookup n with|some c=>(n,c)::cs|none=>cs) else cs)
theorem zh{scope:Scope}{env:Env}(h:∀y∈scope.names,y.2=.free->∃c,env.cells.lookup y.1=some c):closureFor scope env=pure (N8 env.cells scope.names []):=by
 simp only[closureFor];generalize scope.names=names at h;have key:∀(names:List (Str×NameKind)) (cs:List (Str×Addr)),(∀y∈names,y.2=.free->∃c,env.cells.lookup y.1=some c) ->
   (forIn names cs λx r=>if (x.2==NameKind.free)=true then do let c <- cellOf env x.1;pure (ForInStep.yield ((x.1,c)::r)) else pure (ForInStep.yield r))=(pure (N8 env.cells names cs):Sem _):=by
  intro names
  induction names with
  |nil=>intro cs _;rfl
  |cons y r ih=>
   intro cs hy;obtain⟨n,k⟩:=y;rw[List.forIn_cons];by_cases hk:k=.free
   ·subst hk;obtain⟨c,hc⟩:=hy (n,.free) wP rfl;have hc':List.lookup n env.cells=some c:=hc;have e:cellOf env n=pure c:=by unfold cellOf;rw[hc']
    simp only[vp,if_true,e,pure_bind,N8,hc'];exact ih _ λy hm=>hy y (wN _ hm)
   ·have hb:(k==NameKind.free)=false:=by simpa using hk
    simp only[hb,vB,if_false,pure_bind,N8,if_neg hk];exact ih _ λy hm=>hy y (wN _ hm)
 rw[key names [] h];rfl
theorem m5{cells:List (Str×Addr)}{x:Str}{c:Addr}:∀{names:List (Str×NameKind)}{cs:List (Str×Addr)},(N8 cells names cs).lookup x=some c->cs.lookup x=some c\/cells.lookup x=some c
 | [],cs,h=>.inl h
 | (n,k)::r,cs,h=>by
  unfold N8 at h;rcases m5 h with h2|h2
  ·clear h;by_cases hk:k=.free
   ·rw[if_pos hk]at h2;cases e:cells.lookup n with
    |none=>rw[e]at h2;exact .inl h2
    |some c'=>
     rw[e]at h2;simp only[List.lookup_cons]at h2;cases hx:x==n with
     |true=>
      have hx':x=n:=by simpa using hx
      rw[hx]at h2;subst hx';cases h2;exact .inr e
     |false=>
      rw[hx]at h2;exact .inl h2
   ·rw[if_neg hk]at h2;exact .inl h2
  ·exact .inr h2
theorem p8{cells:List (Str×Addr)}{x:Str}{c:Addr}(hc:cells.lookup x=some c):∀{names:List (Str×NameKind)}{cs:List (Str×Addr)},((x,NameKind.free)∈names\/cs.lookup x=some c)->(∀c',cs.lookup x=some c'->c'=c)->(N8 cells names cs).lookup x=some c
 | [],cs,h,_=>by
  rcases h with h|h
  ·exact nomatch h
  ·exact h
 | (n,k)::r,cs,h,hu=>by
  unfold N8;refine p8 hc ?_ ?_
  ·rcases h with h|h
   ·rcases wI.mp h with h|h
    ·cases h;right;rw[if_pos rfl,hc];simp
    ·exact .inl h
   ·right;by_cases hk:k=.free
    ·rw[if_pos hk];cases e:cells.lookup n with
     |none=>exact h
     |some c'=>
      simp only[List.lookup_cons];cases hx:x==n with
      |true=>
       have hx':x=n:=by simpa using hx
       subst hx';rw[hc]at e;cases e;rfl
      |false=>exact h
    ·rw[if_neg hk];exact h
  ·intro c' h';by_cases hk:k=.free
   ·rw[if_pos hk]at h';cases e:cells.lookup n with
    |none=>rw[e]at h';exact hu c' h'
    |some c2=>
     rw[e]at h';simp only[List.lookup_cons]at h';cases hx:x==n with
     |true=>
      have hx':x=n:=by simpa using hx
      subst hx';rw[hx]at h';rw[hc]at e;cases e;cases h';rfl
     |false=>
      rw[hx]at h';exact hu c' h'
   ·rw[if_neg hk]at h';exact hu c' h'
theorem QG{env:Env}:∀{names:List (Str×NameKind)}{x:Str},names.lookup x=some .free ->
  (names.map λ(n,k)=>if (k==NameKind.free&&env.scope.kind==.function&&env.kindOf n==some .cell) then (n,NameKind.cell) else (n,k)).lookup x=some .cell\/
  (names.map λ(n,k)=>if (k==NameKind.free&&env.scope.kind==.function&&env.kindOf n==some .cell) then (n,NameKind.cell) else (n,k)).lookup x=some .free
 | [],_,h=>by simp at h
 | (n,k)::r,x,h=>by
  have ih:=@QG env r x;simp only[List.map_cons];cases hx:x==n with
  |true=>
   simp only[List.lookup_cons,hx]at h;cases h;by_cases hc:(NameKind.free==NameKind.free&&env.scope.kind==.function&&env.kindOf n==some .cell)=true
   ·rw[if_pos hc];left;simp[List.lookup_cons,hx]
   ·rw[if_neg hc];right;simp[List.lookup_cons,hx]
  |false=>
   simp only[List.lookup_cons,hx]at h;by_cases hc:(k==NameKind.free&&env.scope.kind==.function&&env.kindOf n==some .cell)=true
   ·rw[if_pos hc];simp only[List.lookup_cons,hx];exact ih h
   ·rw[if_neg hc];simp only[List.lookup_cons,hx];exact ih h
theorem zp{env:Env}:∀{names:List (Str×NameKind)}{x:Str},
  ((names.map λ(n,k)=>if (k==NameKind.free&&env.scope.kind==.function&&env.kindOf n==some .cell) then (n,NameKind.cell) else (n,k)).lookup x=some .cell\/
  (names.map λ(n,k)=>if (k==NameKind.free&&env.scope.kind==.function&&env.kindOf n==some .cell) then (n,NameKind.cell) else (n,k)).lookup x=some .free)->names.lookup x=some .free\/names.lookup x=some .cell
 | [],_,h=>by simp at h
 | (n,k)::r,x,h=>by
  have ih:=@zp env r x;simp only[List.map_cons]at h;cases hx:x==n with
  |true=>
   simp only[List.lookup_cons,hx];by_cases hc:(k==NameKind.free&&env.scope.kind==.function&&env.kindOf n==some .cell)=true
   ·rw[if_pos hc]at h;have hk:k=.free:=by
     cases k<;>first|rfl|(simp at hc)
    rw[hk];exact .inl rfl
   ·rw[if_neg hc]at h;simp only[List.lookup_cons,hx]at h;exact h.symm
  |false=>
   simp only[List.lookup_cons,hx];by_cases hc:(k==NameKind.free&&env.scope.kind==.function&&env.kindOf n==some .cell)=true
   ·rw[if_pos hc]at h;simp only[List.lookup_cons,hx]at h;exact ih h
   ·rw[if_neg hc]at h;simp only[List.lookup_cons,hx]at h;exact ih h
theorem jF:∀(names:List (Str×NameKind)) (a:Nat) (acc:List (Str×Addr)),cellsFrom a names acc=cellsFrom a names []++acc
 | [],a,acc=>rfl
 | (n,k)::r,a,acc=>by
  unfold cellsFrom;split
  ·rw[jF r (a+1) ((n,a)::acc),jF r (a+1) [(n,a)],List.append_assoc];rfl
  ·exact jF r a acc
theorem ZU{x:Str}{c:Addr}:∀{names:List (Str×NameKind)}{a:Nat},(x,c)∈cellsFrom a names []->(x,NameKind.cell)∈names
 | [],a,h=>nomatch h
 | (n,k)::r,a,h=>by
  unfold cellsFrom at h;split at h
  ·rename_i hk;rw[jF,wJ]at h;rcases h with h|h
   ·exact wN _ (ZU h)
   ·have:(x,c)=(n,a):=wU.mp h;cases this;rw[beq_iff_eq.mp hk];exact wP
  ·exact wN _ (ZU h)
theorem I0{x:Str}:∀{names:List (Str×NameKind)}{a:Nat},(x,NameKind.cell)∈names->∃c,(cellsFrom a names []).lookup x=some c
 | [],a,h=>nomatch h
 | (n,k)::r,a,h=>by
  unfold cellsFrom;rcases wI.mp h with h|h
  ·cases h;rw[if_pos (by decide),jF,vC];cases (cellsFrom (a+1) r []).lookup x with
   |none=>exact⟨a,by simp⟩
   |some c=>exact⟨c,rfl⟩
  ·split
   ·obtain⟨c,hc⟩:=I0 (a:=a+1) h;exact⟨c,by rw[jF,vC,hc];rfl⟩
   ·exact I0 h
noncomputable def zq(X:Cx)(scope:Scope)(C:Addr):List (Str×Addr):=cellsFrom (C+1) scope.names (N8 X.env.cells scope.names [])
noncomputable def cxComp(X:Cx)(scope:Scope)(C:Addr)(fp:List Addr)(s₂:Shared)(H₂:Hp)(N:List Str):Cx:=
 { X with N:=N,s₀:=s₂,H₀:=H₂,env:=compEnvC scope (zq X scope C) C X.env,outer:=X.stack,ex:=fp,fn:=λx=>decide (scope.names.lookup x=some .cell),pn:=[],xe:=λ_ _=>False }
noncomputable def inner(src:List (Option Nat))(σ:St):St:=src.map λo=>match o with|none=>none|some j=>(σ[j]?).join
structure CompScope(X:Cx)(scope:Scope)(N:List Str)(src:List (Option Nat)):Prop where
 kind:scope.kind=.function
 uniq:∀y∈scope.names,scope.names.lookup y.1=some y.2
 frees:∀y∈scope.names,y.2=NameKind.free->X.env.kindOf y.1=some .cell\/X.env.kindOf y.1=some .free
 nd:N.Nodup
 len:src.length=N.length
 from_:∀(i:Nat) x j,N[i]?=some x->src[i]?=some (some j)->X.N[j]?=some x/\scope.names.lookup x=some .free
theorem qb{x:Str}{k:NameKind}:∀{names:List (Str×NameKind)},names.lookup x=some k->(x,k)∈names
 | [],h=>by simp at h
 | (n,k')::r,h=>by
  cases hx:x==n with
  |true=>
   simp only[List.lookup_cons,hx]at h;have hx':x=n:=by simpa using hx
   cases h;subst hx';exact wP
  |false=>
   simp only[List.lookup_cons,hx]at h;exact wN _ (qb h)
section
variable{X:Cx}{pins:List (Addr×Obj)}{σ:St}{H₂:Hp}{s₂:Shared}{scope:Scope}{N:List Str}{src:List (Option Nat)}{fp:List Addr}
theorem CompScope.cells(S:CompScope X scope N src)(ok:X.Ok):∀y∈scope.names,y.2=.free->∃c,X.env.cells.lookup y.1=some c:=λy hy hk=>ok.has y.1 (S.frees y hy hk)
theorem CompScope.names(S:CompScope X scope N src):∀y∈scope.names,y.2=NameKind.local->scope.names.lookup y.1=some .local:=λy hy hk=>by rw[<-hk];exact S.uniq y hy
theorem qz{C:Addr}{h₁:Heap}(ow:CellsOk h₁ (C+1) (cellsFrom (C+1) scope.names [])){x:Str}{c:Addr}(h:(zq X scope C).lookup x=some c):
  ((x,c)∈cellsFrom (C+1) scope.names []/\(x,NameKind.cell)∈scope.names/\h₁.IsCell c none/\C<c)\/X.env.cells.lookup x=some c:=by
 unfold zq at h;rw[jF,vC]at h;cases e:(cellsFrom (C+1) scope.names []).lookup x with
 |some c'=>
  rw[e]at h;cases h;have m:=PySem.mem_of_lookup e;exact .inl ⟨m,ZU m,(ow.empty x c m).1,(ow.empty x c m).2⟩
 |none=>
  rw[e]at h;rcases m5 (show (N8 X.env.cells scope.names []).lookup x=some c by simpa using h) with h|h
  ·simp at h
  ·exact .inr h
theorem ZB(S:CompScope X scope N src){C:Addr}{x:Str}{c:Addr}(hf:scope.names.lookup x=some .free)(h:X.env.cells.lookup x=some c):(zq X scope C).lookup x=some c:=by
 unfold zq;rw[jF,vC];have:(cellsFrom (C+1) scope.names []).lookup x=none:=by
  cases e:(cellsFrom (C+1) scope.names []).lookup x with
  |none=>rfl
  |some c'=>
   have:=S.uniq _ (ZU (PySem.mem_of_lookup e));rw[hf]at this;cases this
 rw[this,p8 h (.inl (qb hf)) (by intro c' h';simp at h')];rfl
theorem qAI(S:CompScope X scope N src)(I:Inv X pins σ H₂ s₂)(f2:∀b∈fp,Qs X pins H₂ b)(ob:∀b∈fp,∃o,s₂.heap.get? b=some o/\∀v,o.data≠.cell v){C:Addr}(hC:s₂.heap.objs.size<=C){h₁:Heap}(ow:CellsOk h₁ (C+1) (cellsFrom (C+1) scope.names [])):
  (cxComp X scope C fp s₂ H₂ N).Ok:=by
 have lt:∀x c,X.env.cells.lookup x=some c->c<s₂.heap.objs.size:=λx c h=>let ⟨v,q⟩:=I.cell x c h;q.lt
 refine⟨I.ok.mod,S.kind,I.ok.glob,I.ok.blt,hC,λx y c h1 h2=>?_,λx hx=>?_,λx c hf h=>?_,I.ok.hd,I.ok.frames,.inl rfl,λb hb=>⟨?_,λx c h=>?_⟩,λb o e=>I.bs b o e,?_,λb o e hb=>?_,λb hb=>?_,I.stack,I.stkFree⟩
 ·rcases qz ow h1 with⟨m1,_,_,g1⟩|g1<;>rcases qz ow h2 with⟨m2,_,_,g2⟩|g2
  ·exact PySem.name_of_addr ow.apart m1 m2
  ·exact absurd (wq (wK (lt y c g2) hC) g1) (wf _)
  ·exact absurd (wq (wK (lt x c g1) hC) g2) (wf _)
  ·exact I.ok.inj x y c g1 g2
 ·rcases zp hx with hf|hf
  ·obtain⟨c,hc⟩:=S.cells I.ok (x,.free) (qb hf) rfl;exact⟨c,ZB S hf hc⟩
  ·obtain⟨c,hc⟩:=I0 (a:=C+1) (qb hf);exact⟨c,by show (zq X scope C).lookup x=_;unfold zq;rw[jF,vC,hc];rfl⟩
 ·have hf':scope.names.lookup x=some .cell:=vm hf;rcases qz ow h with⟨_,_,_,g⟩|g
  ·exact wo (Nat.lt_of_le_of_lt hC g)
  ·unfold cxComp at h;have h:(zq X scope C).lookup x=some c:=h;obtain⟨c',hc'⟩:=I0 (a:=C+1) (qb hf');have e:(zq X scope C).lookup x=some c':=by unfold zq;rw[jF,vC,hc'];rfl
   rw[e]at h;cases h;have:=(ow.empty x c (PySem.mem_of_lookup hc')).2;exact wM hC (Nat.le_of_succ_le this)
 ·obtain⟨o,e,_⟩:=ob b hb;exact wR (wK (Heap.lt_size e) hC)
 ·rcases qz ow h with⟨_,_,_,g⟩|g
  ·obtain⟨o,e,_⟩:=ob b hb;exact vX (wq (wK (Heap.lt_size e) hC) g)
  ·exact(f2 b hb).2.2.2.2.1 x c g
 ·exact wM I.ok.bsz I.sz
 ·rcases(f2 b hb).2.2.2.1 with z|z
  ·exact I.ok.noex b o e z
  ·exact absurd (wK (Heap.lt_size e) (wM I.ok.bsz z)) (wf _)
 ·intro hz;rcases wI.mp (I.stkSub b hz) with e|e
  ·exact(f2 b hb).2.1 e
  ·exact(f2 b hb).2.2.1 e
theorem Zs(S:CompScope X scope N src)(I:Inv X pins σ H₂ s₂)(f2:∀b∈fp,Qs X pins H₂ b)(ob:∀b∈fp,∃o,s₂.heap.get? b=some o/\∀v,o.data≠.cell v){C:Addr}{h₁:Heap}{m:Str->Option Value}{tk n:Nat}
  (hC:s₂.heap.objs.size<C) (keep:∀b o,s₂.heap.get? b=some o->h₁.get? b=some o) (hD:h₁.get? s₂.heap.objs.size=some { cls:=.type "list",data:=.seq #[] n }) (hn:h₁.Ns C m) (ow:CellsOk h₁ (C+1) (cellsFrom (C+1) scope.names [])):
  Inv (cxComp X scope C fp s₂ H₂ N) [] (inner src σ) (upd H₂ s₂.heap.objs.size (.lst [])) { s₂ with heap:=h₁,toks:=tk }:=by
 have lt:∀x c,X.env.cells.lookup x=some c->c<s₂.heap.objs.size:=λx c h=>let ⟨v,q⟩:=I.cell x c h;q.lt
 have hfr:H₂ s₂.heap.objs.size=none:=I.hok.fresh (wF _);refine⟨qAI S I f2 ob (wo hC) ow,rfl,I.bare,Un.laid keep (wF _) hfr,⟨m,hn,λi x v e1 e2 e3=>?_⟩,λx c h=>?_,?_,λx c h=>?_,λp hp=>absurd (show p∈([]:List (Addr×Obj)) from hp) (by simp),I.hok.laid keep (wF _) ⟨by simp,[],n,.nil,hD⟩,?_⟩
 ·have e2':(inner src σ)[i]?=some (some v):=e2;unfold inner at e2';rw[we]at e2';cases q:src[i]? with
  |none=>rw[q]at e2';cases e2'
  |some o=>
   rw[q]at e2';cases o with
   |none=>cases e2'
   |some j=>
    have ej:(σ[j]?).join=some v:=Option.some.inj e2';have ej':σ[j]?=some (some v):=by
     cases z:σ[j]? with
     |none=>rw[z]at ej;cases ej
     |some w=>rw[z]at ej;exact congrArg some ej
    obtain⟨n1,n2⟩:=S.from_ i x j e1 q;obtain⟨m0,hn0,hl⟩:=I.loc;have hfr':=S.frees (x,.free) (qb n2) rfl;obtain⟨u,r,l⟩:=hl j x v n1 ej' (by rcases hfr' with z|z;exact .inr (.inl z);exact .inr (.inr z));refine⟨u,r,.inr ⟨QG n2,?_⟩⟩;rcases l with⟨k,_⟩|⟨_,c,hc,o,ho,hd⟩
    ·have k':X.env.kindOf x=some .local:=k;rcases hfr' with z|z
     ·have z':X.env.kindOf x=some .cell:=z;rw[k']at z';cases z'
     ·have z':X.env.kindOf x=some .free:=z;rw[k']at z';cases z'
    ·exact⟨c,ZB S n2 hc,o,keep c o ho,hd⟩
 ·rcases qz ow h with⟨_,_,g,_⟩|g
  ·exact⟨none,g⟩
  ·obtain⟨v,o,ho,hd⟩:=I.cell x c g;exact⟨v,o,keep c o ho,hd⟩
 ·show upd H₂ s₂.heap.objs.size (.lst []) C=none;rw[qG (vX hC)];exact I.hok.fresh (wo hC)
 ·rcases qz ow h with⟨_,_,_,g⟩|g
  ·rw[qG (vX (wq hC g))];exact I.hok.fresh (wo (wq hC g))
  ·rw[qG (wR (lt x c g))];exact I.freeC x c g
 ·show (inner src σ).length=N.length;unfold inner;rw[wG,S.len]
theorem Jb(I:Inv X pins σ H₂ s₂)(f2:∀b∈fp,Qs X pins H₂ b){C:Addr}{pins':List (Addr×Obj)}{σ':St}{H':Hp}{s':Shared}{h':Heap}(hC:s₂.heap.objs.size<=C)(J:Inv (cxComp X scope C fp s₂ H₂ N) pins' σ' H' s')
  (kp:∀b o,b≠C->s'.heap.get? b=some o->h'.get? b=some o):Inv X pins σ H' { s' with heap:=h' }:=by
 have neC:∀b o,s₂.heap.get? b=some o->b≠C:=λb o e=>wR (wK (Heap.lt_size e) hC);have B:=J.base;refine I.call' (s':={ s' with heap:=h' }) (ch:=fp) J.os ⟨λb o e n hb hx=>kp b o (neC b o e) (B.keep b o e n hb hx),λb o e n hb hx=>?_,B.free,λb o e hx=>?_,B.tups,B.frzs,B.tbls⟩ (λa o e=>?_) J.bare λb hb=>⟨(f2 b hb).2.2.2.1,(f2 b hb).2.1,(f2 b hb).2.2.2.2⟩
 ·obtain⟨sl,q⟩:=B.slot b o e n hb hx;exact⟨sl,kp b _ (neC b o e) q⟩
 ·obtain⟨o',q⟩:=B.there b o e hx;exact⟨o',kp b o' (neC b o e) q⟩
 ·have nC:H' C=none:=J.free;have ne:∀b u,H' b=some u->b≠C:=λb u q z=>by rw[z,nC]at q;cases q
  refine(J.hok a o e).stay (λc v hc q=>kp c v ?_ q) (λ_ q=>q) λ_ _ q=>q;rcases hc with z|z
  ·rw[z];exact ne a o e
  ·exact ne c _ z
end
def PTs(X:Cx)(ifs:List Expr)(t:TT):Prop:=
 ∀(pins:List (Addr×Obj)) (s:Shared) (σ:St) (H:Hp) (Q:Bool->Hp->Prop),Inv X pins σ H s->t σ H Q ->
  wpAny (model X.prog X.w) X.A (forIn ifs true λc r=>if r=true then do let ok <- isTrue c X.env (eval c X.env);pure (ForInStep.yield ok) else pure (ForInStep.yield r)) (TP X pins σ Q) X.xe s
theorem pts_nil{X:Cx}:PTs X [] (λ_ H Q=>Q true H):=λpins s σ H Q I h=>vg ⟨H,I,h⟩
theorem pts_one{X:Cx}{c:Expr}{t:TT}(hc:PT X c t):PTs X [c] t:=by
 intro pins s σ H Q I h;rw[List.forIn_cons];simp only[if_true];refine vf (vf (thn (hc pins s σ H Q I h) λb s1 q=>?_));exact vg (vg q)
noncomputable def tComp(wi:TI)(src:List (Option Nat))(g:TG)(tc:TT)(te:TE):TE:=λσ H Q=>wi σ H λJ H1=>∀D,H1 D=none ->
 ∃W:Nat->Nat->List V->St->Hp->Prop,(∃m,W 0 m [] (inner src σ) (upd H1 D (.lst [])))/\∀i m ys σ' H',W i m ys σ' H'->H' D=some (.lst ys) ->
  (J.stop i H'/\Q (.ref D) H')\/
  (J.go i H'/\∀x H2,J.yld i H' x H2->g x σ' H2 λσ3 H3=>tc σ3 H3 λb H4=>
   if b=true then te σ3 H4 λy H5=>H5 D=some (.lst ys)/\ys.length<sizeLine/\∃m',m'<m/\W (i+1) m' (ys++[y]) σ3 (upd H5 D (.lst (ys++[y])))
   else H4 D=some (.lst ys)/\∃m',m'<m/\W (i+1) m' ys σ3 H4)
section
variable{X:Cx}{pins:List (Addr×Obj)}{σ:St}{H₂:Hp}{s₂:Shared}{scope:Scope}{N:List Str}{src:List (Option Nat)}
theorem Jo{M:Model}{A:Around}{E:Value->Shared->Prop}{s:Shared}{scope:Scope}{globals:Addr}{cl:List (Str×Addr)}{qual:Str}{env:Env}{Q:Env->Shared->Prop}
  (h:Q (newEnv scope s.heap.objs.size globals (cellsFrom (s.heap.objs.size+1) scope.names cl) qual none .none (some env) builtinsNs) { s with heap:=pushCells (s.heap.push { cls:=.type "dict",data:=.dict #[] }) scope.names }):
  wpAny M A (newFunctionEnv scope globals cl [] qual none .none (some env)) Q E s:=by
 simp only[newFunctionEnv,Option.isSome_some,if_true];refine vf (wpAny_alloc ?_);refine vf (wpAny_layCells _ (λname kind cells=>by cases hkc:kind==NameKind.cell<;>simp[hkc]) _ _ _ _ ?_);rw[show ({ s with heap:=s.heap.push { cls:=.type "dict",data:=.dict #[] } }:Shared).heap.objs.size=s.heap.objs.size+1 from Heap.size_push ..];refine vf ?_;rw[List.forIn_nil];exact vg (vg h)
theorem F8{elt tg iter:Expr}{ifs:List Expr}{pos:Pos}{g:TG}{tc:TT}{te:TE}{it:Addr}{fp:List Addr}{tn:Nat->Heap->Prop}{J:It}{Q:VK}{E:Value->Shared->Prop}{RR:Value->Addr->Result->Shared->Prop}
  (hc:X.calm=true) (S:CompScope X scope N src) (I2:Inv X pins σ H₂ s₂) (T:Zk X.prog X.w X.K tg J fp it tn) (st2:tn 0 s₂.heap) (f2:∀b∈fp,Qs X pins H₂ b)
  (hg:∀C fp s H,PG (cxComp X scope C fp s H N) tg g) (ht:∀C fp s H,PTs (cxComp X scope C fp s H N) ifs tc) (he:∀C fp s H,PE (cxComp X scope C fp s H N) elt te)
  (h:∀D,H₂ D=none->∃W:Nat->Nat->List V->St->Hp->Prop,(∃m,W 0 m [] (inner src σ) (upd H₂ D (.lst [])))/\∀i m ys σ' H',W i m ys σ' H'->H' D=some (.lst ys) ->
   (J.stop i H'/\Q (.ref D) H')\/
   (J.go i H'/\∀x H2,J.yld i H' x H2->g x σ' H2 λσ3 H3=>tc σ3 H3 λb H4=>
    if b=true then te σ3 H4 λy H5=>H5 D=some (.lst ys)/\ys.length<sizeLine/\∃m',m'<m/\W (i+1) m' (ys++[y]) σ3 (upd H5 D (.lst (ys++[y])))
    else H4 D=some (.lst ys)/\∃m',m'<m/\W (i+1) m' ys σ3 H4))
  (hRR:∀(D C:Addr) (σ':St) (H':Hp) (s':Shared),s₂.heap.objs.size<=C->Inv (cxComp X scope C fp s₂ H₂ N) [] σ' H' s'->Q (.ref D) H'->RR (.ref D) C (.ok .next) s'):
  wpAny (model X.prog X.w) X.A (newList []) (λacc s₃=>wpAny (model X.prog X.w) X.A (newFunctionEnv scope X.env.globals (N8 X.env.cells scope.names []) [] X.env.qual none .none (some X.env)) (λcenv s₄=>
   codeAny (model X.prog X.w) X.A (.compStart (.ListComp elt [⟨tg,iter,ifs,0⟩] scope pos) 0 (.ref it) acc { cenv with scope:=relabel scope X.env }) (RR acc cenv.locals) s₄) E s₃) E s₂:=by
 refine wpAny_newObj_type (Jo ?_);dsimp only;generalize hH2:s₂.heap.push { cls:=.type "list",dict:=none,data:=.seq ([]:List Value).toArray }=P2;have hC:P2.objs.size=s₂.heap.objs.size+1:=by rw[<-hH2,Heap.size_push]
 have ow:=cellsFrom_ok scope.names (P2.push { cls:=.type "dict",data:=.dict #[] }) (P2.objs.size+1) [] ⟨λ_ _ hm=>(nomatch hm),List.Pairwise.nil⟩ (by rw[Heap.size_push];exact wF _);rw[Heap.size_push]at ow;generalize hh1:pushCells (P2.push { cls:=.type "dict",data:=.dict #[] }) scope.names=h₁ at ow ⊢;have kp:∀b o,P2.get? b=some o->h₁.get? b=some o:=λb o e=>hh1 ▸ pushCells_keeps _ _ b o (Heap.get?_push_of_some _ e);have hns₁:h₁.Ns P2.objs.size (λ_=>none):=hh1 ▸ (Heap.Ns.new P2 (.type "dict")).keeps (pushCells_keeps _ _);have old:∀b o,s₂.heap.get? b=some o->h₁.get? b=some o:=λb o e=>kp b o (hH2 ▸ Heap.get?_push_of_some _ e);have hacc:h₁.get? s₂.heap.objs.size=some { cls:=.type "list",data:=.seq #[] }:=kp _ _ (hH2 ▸ Heap.get?_push_size _ rfl);have st1:tn 0 h₁:=T.keep _ _ _ st2 λb _ o e=>old b o e;have ob:=T.obj _ _ st2;have lt:s₂.heap.objs.size<P2.objs.size:=by rw[hC];exact wz _
 have I3:=Zs (tk:=s₂.toks) S I2 f2 ob lt old hacc hns₁ ow;obtain⟨W,⟨m0,w0⟩,step⟩:=h s₂.heap.objs.size I2.fresh;have fpn:∀b∈fp,b≠s₂.heap.objs.size:=λb hb=>by
  obtain⟨o,e,_⟩:=ob b hb;exact wR (Heap.lt_size e)
 have fok:∀{pins':List (Addr×Obj)}{H':Hp},(∀b∈fp,H' b=none)->(∀p∈pins',p.1∉fp)->∀b∈fp,Qs (cxComp X scope P2.objs.size fp s₂ H₂ N) pins' H' b:=λ{pins' H'} hn hp b hb=>by
  have okc:=I3.ok;exact⟨hn b hb,(okc.exf b hb).1,okc.exfs b hb,.inl hb,(okc.exf b hb).2,λp hp' z=>hp p (by simpa [cxComp] using hp') (z ▸ hb)⟩
 have loop:∀s₃:Shared,s₃={ s₂ with heap:=h₁,toks:=s₂.toks } ->
   codeAny (model X.prog X.w) X.A (.compLoop (.ListComp elt [⟨tg,iter,ifs,0⟩] scope pos) 0 (.ref it) (.ref s₂.heap.objs.size) (compEnvC scope (zq X scope P2.objs.size) P2.objs.size X.env))
    (RR (.ref s₂.heap.objs.size) P2.objs.size) s₃:=by
  rintro s₃ rfl;refine codeAny_loop rfl (λn s'=>∃i ys σ' H',Inv (cxComp X scope P2.objs.size fp s₂ H₂ N) [] σ' H' s'/\tn i s'.heap/\(∀b∈fp,H' b=none)/\H' s₂.heap.objs.size=some (.lst ys)/\W i n ys σ' H') (λn s' hI=>?_) m0
   ⟨0,[],inner src σ,_,I3,st1,λb hb=>by rw[qG (fpn b hb)];exact(f2 b hb).1,qF,w0⟩
  obtain⟨i,ys,σ3,H3,J3,st3,fr3,hD3,w3⟩:=hI;show wpAny _ X.A ((compTurn (.ListComp elt [⟨tg,iter,ifs,0⟩] scope pos) 0 (.ref it) (.ref s₂.heap.objs.size) _).onRaise (λx=>do noteFrame x _;theTreesLotGoes x)) _ _ s';refine wpAny_noted ?_;rw[compTurn_list];have never:∀{α:Type}{t:Sem α}{Q1:α->Shared->Prop}{E1:Value->Shared->Prop}{s1:Shared},wpAny (model X.prog X.w) X.A t Q1 (λ_ _=>False) s1->wpAny (model X.prog X.w) X.A t Q1 E1 s1:=λh=>wpAny_mono h (λ_ _ q=>q) λ_ _ f=>f.elim;refine vf (wpAny_standAt (vf ?_));rcases step i n ys σ3 H3 w3 hD3 with⟨stop,qn⟩|⟨go,qAl⟩
  ·refine never (thn (T.done (cxComp X scope P2.objs.size fp s₂ H₂ N) rfl rfl rfl hc i [] s' σ3 H3 _ J3 (fok fr3 (by simp)) st3 stop) λr s4 ⟨hr,I4⟩=>?_);subst hr;exact vg (hRR _ _ σ3 H3 s4 (wo lt) I4 qn)
  ·refine never (thn (T.item (cxComp X scope P2.objs.size fp s₂ H₂ N) rfl rfl rfl hc i [] s' σ3 H3 _ J3 (fok fr3 (by simp)) st3 go) λr s4 ⟨u,hr,h4⟩=>?_);subst hr;refine vf (never (thn h4 λ_ s5 ⟨x,H5,I5,r5,y5,st5,fr5⟩=>?_));have I5':=I5.pinned (fok fr5 (by simp)) (T.obj _ _ st5);have kept:∀{σ7:St}{H7:Hp}{s7:Shared},Inv (cxComp X scope P2.objs.size fp s₂ H₂ N) ([]++JK fp s5.heap) σ7 H7 s7->Inv (cxComp X scope P2.objs.size fp s₂ H₂ N) [] σ7 H7 s7/\tn (i+1) s7.heap/\∀b∈fp,H7 b=none:=λ{σ7 H7 s7} I7=>by
    refine⟨I7.unpinned,T.keep _ _ _ st5 λb hb o e=>(I7.pin (b,o) (wQ _ (wQ _ (zw hb e)))).1,λb hb=>?_⟩;obtain⟨o,e,d⟩:=T.obj _ _ st5 b hb;exact(I7.pin (b,o) (wQ _ (wQ _ (zw hb e)))).2.1
   refine vf (never (thn (hg _ _ _ _ _ s5 σ3 H5 x u _ I5' r5 (qAl x H5 y5)) λ_ s6 ⟨σ6,H6,I6,q6⟩=>?_));refine vf (never (thn (ht _ _ _ _ _ s6 σ6 H6 _ I6 q6) λb s7 ⟨H7,I7,q7⟩=>?_));cases b with
   |false=>
    rw[if_neg (by decide)]at q7;obtain⟨hD7,m',hm,w7⟩:=q7;obtain⟨I7',st7,fr7⟩:=kept I7;exact vg ⟨rfl,m',hm,i+1,ys,σ6,H7,I7',st7,fr7,hD7,w7⟩
   |true=>
    rw[if_pos rfl]at q7;refine vf (vf (never (thn (he _ _ _ _ _ s7 σ6 H7 _ I7 q7) λyv s8 ⟨y,H8,I8,r8,hD8,hz,m',hm,w8⟩=>?_)));refine vf (never (thn (mt_append (X:=cxComp X scope P2.objs.size fp s₂ H₂ N) _ s8 σ6 H8 (.ref s₂.heap.objs.size) [y] _ [yv] (λv H'=>v=.non/\H'=upd H8 s₂.heap.objs.size (.lst (ys++[y]))) I8 rfl (.cons r8 .nil) ⟨_,ys,y,rfl,rfl,hD8,hz,rfl,rfl⟩) λ_ s9 ⟨v9,H9,I9,_,_,e9⟩=>?_));subst e9;obtain⟨I9',st9,fr9⟩:=kept I9;exact vg (vg ⟨rfl,m',hm,i+1,_,σ6,_,I9',st9,fr9,qF,w8⟩)
 exact codeAny_compStart_list (loop _ rfl) (T.self _ 0 _ _ _ st1 (loop _ rfl))
end
section
variable{X:Cx}{scope:Scope}{N:List Str}{src:List (Option Nat)}{elt tg iter:Expr}{ifs:List Expr}{pos:Pos}{wi:TI}{g:TG}{tc:TT}{te:TE}
theorem pe_comp(hc:X.calm=true)(hi:_P X tg iter wi)(S:CompScope X scope N src)
  (hg:∀C fp s H,PG (cxComp X scope C fp s H N) tg g) (ht:∀C fp s H,PTs (cxComp X scope C fp s H N) ifs tc) (he:∀C fp s H,PE (cxComp X scope C fp s H N) elt te)
  (hs:∀x,foldedSetIterable iter X.env x=pure x:=by intro _;rfl):PE X (.ListComp elt [⟨tg,iter,ifs,0⟩] scope pos) (tComp wi src g tc te):=by
 intro pins s σ H Q I h;rw[eval_ListComp];refine wpAny_comprehension_free (use:=none) rfl hs (zh (S.cells I.ok)) S.kind S.names (thn (hi pins s σ H _ I h) λv s1 h1=>thn h1 λitv s2 h2=>?_);obtain⟨it,fp,tn,J,H2,rfl,I2,T,st2,f2,hW⟩:=h2;refine F8 (Q:=Q) (RR:=λacc C=>compPost (model X.prog X.w) X.A X.xe none (EP X pins σ Q) acc C) hc S I2 T st2 f2 hg ht he hW ?_;intro D C σ' H' s' hC J q;obtain⟨m,hn,_⟩:=id J.loc;exact⟨m,hn,λh' hs'=>⟨.ref D,H',Jb I2 f2 hC J (λb o hb e=>hs'.extBut b o hb e),rfl,q⟩⟩
theorem ps_setcomp{i:Nat}{x:Str}{pos' spos:Pos}(hc:X.calm=true)(hi:_P X tg iter wi)(S:CompScope X scope N src)
  (hg:∀C fp s H,PG (cxComp X scope C fp s H N) tg g) (ht:∀C fp s H,PTs (cxComp X scope C fp s H N) ifs tc) (he:∀C fp s H,PE (cxComp X scope C fp s H N) elt te)
  (hsw:swapsWith (.ListComp elt [⟨tg,iter,ifs,0⟩] scope pos) (some (.Name x pos')) spos.line X.env=pure true)
  (hN:X.N.Nodup) (hx:X.N[i]?=some x) (hl:X.env.scope.names.lookup x=some .local)
  (hs:∀x,foldedSetIterable iter X.env x=pure x:=by intro _;rfl):PS X (.Assign [.Name x pos'] (.ListComp elt [⟨tg,iter,ifs,0⟩] scope pos) spos) (tAsg (tComp wi src g tc te) (qC0 i)):=by
 intro pins s σ H D I h;rw[exec_Assign_Name_used _ _ _ _ hsw];refine vf (wpAny_standAt (vf ?_));show wpAny _ X.A (do let _ <- comprehension (.ListComp elt [⟨tg,iter,ifs,0⟩] scope pos) scope X.env _ (newList []) false (eval iter X.env) (some (assign (.Name x pos') X.env))) _ _ s;refine vf (wpAny_mono (wpAny_comprehension_free (use:=some (assign (.Name x pos') X.env)) (Q:=λ_ s'=>SP X pins D .next s') rfl hs (zh (S.cells I.ok)) S.kind S.names
  (thn (hi pins s σ H _ I h) λv s1 h1=>thn h1 λitv s2 h2=>?_)) (λ_ s' hq=>vg (vg hq)) λ_ _ e=>e)
 obtain⟨it,fp,tn,J,H2,rfl,I2,T,st2,f2,hW⟩:=h2;refine F8 (Q:=λv H'=>D.nx (σ.set i (some v)) H') (RR:=λacc C=>compPost (model X.prog X.w) X.A X.xe (some (assign (.Name x pos') X.env)) (λ_ s'=>SP X pins D .next s') acc C) hc S I2 T st2 f2 hg ht he hW ?_;intro L C σ' H' s' hC J q;obtain⟨m,hn,_⟩:=id J.loc;have I3:Inv X pins σ H' s':=Jb (h':=s'.heap) I2 f2 hC J (λb o hb e=>e);show wpAny _ X.A (assign (.Name x pos') X.env (.ref L)) _ _ _;have nL:X.env.locals≠C:=wR (wK I2.lt hC);refine wpAny_assign_Name (JS I3 hN hx (.inl hl) (show RelV (.ref L) (.ref L) from rfl) (λs4 I4 hsb=>?_) (.inr hl));obtain⟨a,sb,ha⟩:=hsb;have ha':a≠C:=by
  rcases ha with z|z
  ·rw[z];exact nL
  ·obtain⟨v,hv⟩:=I2.cell x a z;exact wR (wK hv.lt hC)
 refine⟨m,hn.sameBut sb (Ne.symm ha'),λh5 sb5=>?_⟩;have I5:Inv X pins (σ.set i (some (V.ref L))) H' { s4 with heap:=h5,toks:=s4.toks }:=I4.turned (it:=C) (λb o hb e=>sb5.extBut b o hb e) J.free (Ne.symm nL) (.inr (wM I2.sz hC)) (λy c e z=>by
   obtain⟨v,hv⟩:=I2.cell y c e;exact absurd (wK hv.lt (by rw[z];exact hC)) (wf _)) λp hp z=>absurd (wK (Heap.lt_size (I2.pin p hp).1) (by rw[z];exact hC)) (wf _)
 exact⟨_,H',I5,q⟩
end
end _L
namespace _P
open _L (V Key)
open PySem (Str)
inductive BOp|add|sub|mul|fdiv|mod|pow|band|shl
 deriving DecidableEq
inductive COp|lt|le|gt|ge|eq|ne|inn|notin|is|isnot
 deriving DecidableEq
inductive BF|len|sum|all|any|max|min|list|int|tuple|sorted|repr|bits|maxl
 deriving DecidableEq
inductive Mt|cnt
 deriving DecidableEq
inductive Tg|name(i:Nat)|tup(is:List Nat)
 deriving DecidableEq
set_option genInjectivity false
mutual
inductive E
 |var (i:Nat)|cst (v:V)|glob (g:Nat)
 |bin (op:BOp) (a b:E)|neg (a:E)
 |cmp (op:COp) (a b:E)|cmp2 (o1 o2:COp) (a b c:E)|cmp3 (o1 o2 o3:COp) (a b c d:E)
 |and (a b:E)|or (a b:E)|not (a:E)
 |call (f:Nat) (as:Es)|blt (f:BF) (as:Es)|isi (a:E) (ts:List String)
 |idx (a b:E)|sl (a:E) (lo hi:Es)|rev (a:E)  | lst (as:Es)|tup (as:Es)
 |comp (it:Itr) (src:List (Option Nat)) (g:Tg) (c:Es) (e:E)
 |app (a b:E)|lrng (a:E)|dnew|meth (m:Mt) (a:E) (as:Es)     | nset (a:E)|sset (a:E)
inductive Es|nil|cons(a:E)(as:Es)
inductive Itr|list(a:E)|rng1(a:E)|rng2(a b:E)|zip(a b:E)|enum(a:E)  | rng3(a b:E)
end
mutual
inductive S
 |asg (g:Tg) (e:E)  | put (o i v:E)
 |expr (e:E)|ret (e:E)  | ifs (c:E) (t u:Ss)
 |for_ (g:Tg) (it:Itr) (b:Ss)|while_ (c:E) (b:Ss)    | stop
inductive Ss|nil|cons(s:S)(r:Ss)
end
set_option genInjectivity true
noncomputable def Es.snoc:Es->E->Es
 | .nil,e=>.cons e .nil
 | .cons a as,e=>.cons a (Es.snoc as e)
inductive Ob|dct(kvs:List (Int×V))|exn(c:Str)
 deriving DecidableEq
inductive O|lst(fz:Bool)(xs:List V)|tup(xs:List V)|ob(o:Ob)
 deriving DecidableEq
noncomputable abbrev AH:=List O
noncomputable abbrev St:=List (Option V)
inductive Res(α:Type)|ok(a:α)|exc(c:Nat)(h:AH)|stuck
noncomputable def Res.bind{α β:Type}:Res α->(α->Res β)->Res β
 | .ok a,f=>f a
 | .exc c h,_=>.exc c h
 | .stuck,_=>.stuck
noncomputable def Res.nx{α:Type}:Res α->Res α
 | .ok a=>.ok a
 | .exc _ _=>.stuck
 | .stuck=>.stuck
@[simp] theorem tH{α β:Type}(a:α)(f:α->Res β):(Res.ok a).bind f=f a:=rfl
noncomputable abbrev RV:=Res (V×AH)
noncomputable def items(h:AH)(a:Nat):Option (List V):=match h[a]? with
 |some (.lst _ xs)=>some xs
 |some (.tup xs)=>some xs
 |_=>none
noncomputable def qH(h:AH)(a:Nat):Option (List V):=match h[a]? with
 |some (.lst _ xs)=>some xs
 |_=>none
noncomputable def qU(h:AH)(a:Nat):Option (List V):=match h[a]? with
 |some (.tup xs)=>some xs
 |_=>none
noncomputable def JL(h:AH)(a:Nat):Option (List (Int×V)):=match h[a]? with
 |some (.ob (.dct kvs))=>some kvs
 |_=>none
noncomputable def qBS(kvs:List (Int×V))(k:Int):Bool:=kvs.any λp=>decide (p.1=k)
noncomputable def qDb(kvs:List (Int×V))(k:Int)(v:V):List (Int×V):=if qBS kvs k=true then kvs.map (λp=>if p.1=k then (p.1,v) else p) else kvs++[(k,v)]
noncomputable def qCl(h:AH)(a:Nat):Option Str:=match h[a]? with
 |some (.ob (.exn c))=>some c
 |_=>none
noncomputable def qo(h:AH)(a:Nat):Option (List V):=match h[a]? with
 |some (.lst false xs)=>some xs
 |_=>none
noncomputable def lim:Nat:=100000
noncomputable def newL(xs:List V)(h:AH):RV:=.ok (.ref h.length,h++[.lst false xs])
noncomputable def newT(xs:List V)(h:AH):RV:=.ok (.ref h.length,h++[.tup xs])
noncomputable def flat:V->Bool
 | .non=>true | .bl _=>true | .int _=>true | .str _=>true|_=>false
noncomputable def eqF:V->V->Option Bool
 | .int i,.int j=>some (i==j)
 | .bl i,.bl j=>some (i==j)
 | .str i,.str j=>some (i==j)
 | .non,.non=>some true
 | .int i,.bl b=>some (i==(if b then 1 else 0))
 | .bl b,.int i=>some ((if b then 1 else 0)==i)
 | .non,.int _=>some false | .int _,.non=>some false
 | .non,.bl _=>some false | .bl _,.non=>some false
 | .non,.str _=>some false | .str _,.non=>some false
 | .int _,.str _=>some false | .str _,.int _=>some false
 | .bl _,.str _=>some false | .str _,.bl _=>some false
 |_,_=>none
noncomputable def Qu(f:V->V->Option Bool):List V->List V->Option (List Bool)
 | [],[]=>some []
 |x::xs,y::ys=>match f x y,Qu f xs ys with
  |some b,some bs=>some (b::bs)
  |_,_=>none
 |_,_=>none
noncomputable def eqD(h:AH):Nat->V->V->Option Bool
 | 0,x,y=>eqF x y
 |n+1,.ref a,.ref b=>match h[a]?,h[b]? with
  |some (.lst _ xs),some (.lst _ ys)=>if a=b then some true else if xs.length=ys.length then (Qu (eqD h n) xs ys).map λbs=>bs.all id else some false
  |some (.tup xs),some (.tup ys)=>if a=b then some true else if xs.length=ys.length then (Qu (eqD h n) xs ys).map λbs=>bs.all id else (Qu (eqD h n) (xs.take ys.length) (ys.take xs.length)).map λ_=>false
  |some (.lst _ _),some (.tup _)=>some false
  |some (.tup _),some (.lst _ _)=>some false
  |_,_=>none
 |_+1,.ref a,y=>if (items h a).isSome&&flat y then some false else none
 |_+1,x,.ref b=>if flat x&&(items h b).isSome then some false else none
 |_+1,x,y=>eqF x y
noncomputable abbrev ixN(n:Nat)(i:Int):Option Nat:=_L.ixN n i
noncomputable abbrev cut(xs:List V)(lo hi:Option Int):List V:=_L.cutV xs lo hi
noncomputable def two64:Int:=18446744073709551616
noncomputable def small(i:Int):Bool:=decide (-two64<i/\i<two64)
noncomputable def mid(i:Int):Bool:=decide (i.natAbs.log2<9000)
noncomputable def E5(x y:V)(f:Int->Int->RV):RV:=match x with
 | .int i=>(match y with | .int j=>f i j|_=>.stuck)
 |_=>.stuck
theorem qf{x y:V}{f:Int->Int->RV}{r:V×AH}(e:E5 x y f=.ok r):∃i j,x=.int i/\y=.int j/\f i j=.ok r:=by
 unfold E5 at e;split at e
 ·split at e
  ·exact⟨_,_,rfl,rfl,e⟩
  ·cases e
 ·cases e
noncomputable def N7(x:V)(f:Nat->RV):RV:=match x with
 | .ref a=>f a
 |_=>.stuck
theorem qt{x:V}{f:Nat->RV}{r:V×AH}(e:N7 x f=.ok r):∃a,x=.ref a/\f a=.ok r:=by
 unfold N7 at e;split at e
 ·exact⟨_,rfl,e⟩
 ·cases e
noncomputable def Y3:BOp->V->V->AH->RV
 | .add,x,y,h=>(match x with
  | .ref a=>N7 y λb=>(match qo h a,qo h b with
   |some xs,some ys=>if xs.length+ys.length<=lim then newL (xs++ys) h else .stuck
   |_,_=>(match qU h a,qU h b with
    |some xs,some ys=>if xs≠[]/\xs.length+ys.length<=lim then (if ys=[] then .ok (.ref a,h) else newT (xs++ys) h) else .stuck
    |_,_=>.stuck))
  |x=>E5 x y λi j=>.ok (.int (i+j),h))
 | .sub,x,y,h=>E5 x y λi j=>.ok (.int (i-j),h)
 | .mul,x,y,h=>(match x with
  | .ref a=>(match y with
   | .int k=>(match qo h a with
    |some xs=>if 0<=k/\xs.length*k.toNat<=lim/\k<1000000 then newL (List.replicate k.toNat xs).flatten h else .stuck
    |none=>.stuck)
   |_=>.stuck)
  |x=>E5 x y λi j=>if small i||small j||(mid i&&mid j) then .ok (.int (i*j),h) else .stuck)
 | .fdiv,x,y,h=>E5 x y λi j=>if 0<j/\(j<1073741824\/mid j=true) then .ok (.int (i / j),h) else if j<0/\mid j=true then .ok (.int (i.fdiv j),h) else .stuck
 | .mod,x,y,h=>E5 x y λi j=>if 0<j then .ok (.int (i % j),h) else if j<0 then .ok (.int (i.fmod j),h) else .stuck
 | .pow,x,y,h=>E5 x y λi j=>if 0<=j/\j<=1000/\i.natAbs<18446744073709551616 then .ok (.int (i ^ j.toNat),h) else .stuck
 | .band,x,y,h=>E5 x y λi j=>.ok (.int (PySem.Builtin.bitAnd i j),h)
 | .shl,x,y,h=>E5 x y λi j=>if 0<=j/\j<=1000/\i.natAbs<18446744073709551616 then .ok (.int (i*2 ^ j.toNat),h) else .stuck
noncomputable def qBQ(x y:V)(f:Int->Int->Bool):Option Bool:=match x with
 | .int i=>(match y with | .int j=>some (f i j)|_=>none)
 |_=>none
theorem QP{x y:V}{f:Int->Int->Bool}{r:Bool}(e:qBQ x y f=some r):∃i j,x=.int i/\y=.int j/\f i j=r:=by
 unfold qBQ at e;split at e
 ·split at e
  ·exact⟨_,_,rfl,rfl,Option.some.inj e⟩
  ·cases e
 ·cases e
noncomputable def n9(y:V)(f:Nat->Option Bool):Option Bool:=match y with
 | .ref a=>f a
 |_=>none
theorem E4{y:V}{f:Nat->Option Bool}{r:Bool}(e:n9 y f=some r):∃a,y=.ref a/\f a=some r:=by
 unfold n9 at e;split at e
 ·exact⟨_,rfl,e⟩
 ·cases e
noncomputable def isC(x y:V)(f:Bool->Bool):Option Bool:=match y with
 | .non=>some (f (decide (x=.non)))
 | .bl d=>(match x with | .bl c=>some (f (c==d))|_=>none)
 |_=>none
theorem W2{x y:V}{f:Bool->Bool}{r:Bool}(e:isC x y f=some r):(y=.non/\f (decide (x=.non))=r)\/∃c d,x=.bl c/\y=.bl d/\f (c==d)=r:=by
 unfold isC at e;split at e
 ·exact .inl ⟨rfl,Option.some.inj e⟩
 ·split at e
  ·exact .inr ⟨_,_,rfl,rfl,Option.some.inj e⟩
  ·cases e
 ·cases e
noncomputable def N5:COp->V->V->AH->Option Bool
 | .lt,x,y,_=>qBQ x y λi j=>decide (i<j)
 | .le,x,y,_=>qBQ x y λi j=>decide (i<=j)
 | .gt,x,y,_=>qBQ x y λi j=>decide (j<i)
 | .ge,x,y,_=>qBQ x y λi j=>decide (j<=i)
 | .eq,x,y,h=>eqD h 4 x y
 | .ne,x,y,h=>(eqD h 4 x y).map (!·)
 | .inn,x,y,h=>n9 y λa=>(match items h a with
  |some xs=>if flat x&&xs.all flat then some (xs.any λy=>_L.eqV y x) else none
  |none=>match JL h a with
   |some kvs=>(match x with | .int i=>some (qBS kvs i)|_=>none)
   |none=>none)
 | .notin,x,y,h=>n9 y λa=>(match items h a with
  |some xs=>if flat x&&xs.all flat then some (!(xs.any λy=>_L.eqV y x)) else none
  |none=>match JL h a with
   |some kvs=>(match x with | .int i=>some (!qBS kvs i)|_=>none)
   |none=>none)
 | .is,x,y,_=>isC x y id
 | .isnot,x,y,_=>isC x y (!·)
noncomputable def h9(op:COp)(x y:V)(h:AH):RV:=match N5 op x y h with
 |some b=>.ok (.bl b,h)
 |none=>.stuck
noncomputable def zR:List V->Option (List Int)
 | []=>some []
 | .int i::r=>(zR r).map (i::·)
 |_::_=>none
noncomputable def jO:List V->Option (List Bool)
 | []=>some []
 | .bl b::r=>(jO r).map (b::·)
 |_::_=>none
noncomputable def zr:List V->Option (List Int)
 | []=>some []
 | .int i::r=>(zr r).map (i::·)
 | .bl b::r=>(zr r).map ((if b=true then 1 else 0)::·)
 |_::_=>none
noncomputable def jG(lo:Int)(n:Nat):List V:=(List.range n).map λ(i:Nat)=>V.int (lo+(i:Int))
noncomputable def uniq(is:List Int):List Int:=is.foldl PyProof.Rows.step_dedup []
noncomputable def Y8(is:List Int):Nat:=(is.foldl PyProof.Rows.step_dedup []).length
noncomputable def ins(x:Int):List Int->List Int
 | []=>[x]
 |y::r=>if x<=y then x::y::r else y::ins x r
noncomputable def zo:List Int->List Int
 | []=>[]
 |x::r=>ins x (zo r)
theorem Zc(x:Int):∀l,(ins x l).Perm (x::l)
 | []=>.refl _
 |y::r=>by
  unfold ins;split
  ·exact .refl _
  ·exact((Zc x r).cons y).trans (.swap x y r)
theorem zA:∀l,(zo l).Perm l
 | []=>.refl _
 |x::r=>(Zc x _).trans ((zA r).cons x)
theorem l6(x:Int):∀l:List Int,l.Pairwise (·<=·)->(ins x l).Pairwise (·<=·)
 | [],_=>List.pairwise_singleton _ _
 |y::r,h=>by
  obtain⟨h1,h2⟩:=vD.mp h;unfold ins;split
  ·rename_i q;refine vD.mpr ⟨λz hz=>?_,h⟩;rcases wI.mp hz with rfl|hz
   ·exact q
   ·exact Int.le_trans q (h1 z hz)
  ·rename_i q;refine vD.mpr ⟨λz hz=>?_,l6 x r h2⟩;rcases wI.mp ((Zc x r).mem_iff.mp hz) with rfl|hz
   ·omega
   ·exact h1 z hz
theorem ZV:∀l:List Int,(zo l).Pairwise (·<=·)
 | []=>.nil
 |x::r=>l6 x _ (ZV r)
theorem Zq:∀{a b:List Int},a.Pairwise (·<=·)->b.Pairwise (·<=·)->a.Perm b->a=b
 | [],b,_,_,p=>(List.Perm.eq_nil p.symm).symm
 |x::a,[],_,_,p=>absurd p.length_eq (by simp)
 |x::a,y::b,ha,hb,p=>by
  obtain⟨a1,a2⟩:=vD.mp ha;obtain⟨b1,b2⟩:=vD.mp hb;have e:x=y:=by
   have m1:x∈y::b:=p.mem_iff.mp (wP ..);have m2:y∈x::a:=p.mem_iff.mpr (wP ..);rcases wI.mp m1 with h|h
   ·exact h
   ·rcases wI.mp m2 with h' | h'
    ·exact h'.symm
    ·have:=a1 y h';have:=b1 x h;omega
  subst e;rw[Zq a2 b2 (List.Perm.cons_inv p)]
noncomputable def qAL:List Int->Option Int
 | []=>none
 |x::r=>match qAL r with|some y=>some (if x<=y then y else x)|none=>some x
theorem W4:∀{l:List Int}{k:Int},qAL l=some k->k∈l/\∀a∈l,a<=k
 | [],k,e=>by cases e
 |x::r,k,e=>by
  unfold qAL at e;split at e
  ·rename_i y ey;obtain⟨h1,h2⟩:=W4 ey;cases e;split
   ·rename_i q;exact⟨wN _ h1,λa ha=>by rcases wI.mp ha with rfl|ha;exact q;exact h2 a ha⟩
   ·rename_i q;exact⟨wP ..,λa ha=>by rcases wI.mp ha with rfl|ha;exact Int.le_refl _;have:=h2 a ha;omega⟩
  ·rename_i ey;cases e;cases r with
   |nil=>exact⟨wP ..,λa ha=>by rw[wU.mp ha];exact Int.le_refl _⟩
   |cons z r=>unfold qAL at ey;split at ey<;>cases ey
noncomputable def QX{α:Type}(x:Int×α):List (Int×α)->List (Int×α)
 | []=>[x]
 |y::r=>if x.1<=y.1 then x::y::r else y::QX x r
noncomputable def one(as:List V)(f:V->RV):RV:=match as with
 | [a]=>f a
 |_=>.stuck
theorem zM{as:List V}{f:V->RV}{r:V×AH}(e:one as f=.ok r):∃a,as=[a]/\f a=.ok r:=by
 unfold one at e;split at e
 ·exact⟨_,rfl,e⟩
 ·cases e
noncomputable def two(as:List V)(f:V->V->RV):RV:=match as with
 | [a,b]=>f a b
 |_=>.stuck
theorem two_inv{as:List V}{f:V->V->RV}{r:V×AH}(e:two as f=.ok r):∃a b,as=[a,b]/\f a b=.ok r:=by
 unfold two at e;split at e
 ·exact⟨_,_,rfl,e⟩
 ·cases e
noncomputable def n6:V->Option PySem.PyData
 | .non=>some .none
 | .bl b=>some (.bool b)
 | .int i=>some (.int i)
 | .str x=>some (.str x)
 |_=>none
noncomputable def K3(f:V->Option PySem.PyData):List V->Option (List PySem.PyData)
 | []=>some []
 |x::r=>(f x).bind λd=>(K3 f r).map λds=>d::ds
noncomputable def dat(h:AH):Nat->V->Option PySem.PyData
 | 0,x=>n6 x
 |n+1,x=>match x with
  | .ref a=>(match h[a]? with
   |some (.lst _ xs)=>(K3 (dat h n) xs).map .list
   |some (.tup xs)=>(K3 (dat h n) xs).map .tuple
   |some (.ob (.dct []))=>some (.dict [])
   |_=>none)
  |y=>n6 y
noncomputable def L3(d:PySem.PyData):Option V:=if d.showable=true/\d.shown.length<=PySem.sizeLine then some (.str d.shown) else none
noncomputable def qD6(h:AH)(x:V):Option PySem.PyData:=dat h 5 x
noncomputable def qDF(h:AH)(x:V):RV:=match (qD6 h x).bind L3 with
 |some v=>.ok (v,h)
 |none=>.stuck
noncomputable def qB8:BF->List V->AH->RV
 | .len,as,h=>one as λx=>N7 x λa=>(match items h a with|some xs=>.ok (.int xs.length,h)|none=>.stuck)
 | .sum,as,h=>one as λx=>N7 x λa=>(match qH h a with
  |some xs=>match zr xs with|some is=>.ok (.int is.sum,h)|none=>.stuck
  |none=>.stuck)
 | .all,as,h=>one as λx=>N7 x λa=>(match qH h a with
  |some xs=>match jO xs with|some bs=>.ok (.bl (bs.all id),h)|none=>.stuck
  |none=>.stuck)
 | .any,as,h=>one as λx=>N7 x λa=>(match qH h a with
  |some xs=>match jO xs with|some bs=>.ok (.bl (bs.any id),h)|none=>.stuck
  |none=>.stuck)
 | .max,as,h=>two as λx y=>E5 x y λi j=>.ok (.int (if j>i then j else i),h)
 | .min,as,h=>two as λx y=>E5 x y λi j=>.ok (.int (if j<i then j else i),h)
 | .list,as,h=>one as λx=>N7 x λa=>(match items h a with|some xs=>newL xs h|none=>.stuck)
 | .tuple,as,h=>one as λx=>N7 x λa=>(match h[a]? with|some (.lst _ xs)=>newT xs h|some (.tup _)=>.ok (.ref a,h)|_=>.stuck)
 | .int,as,h=>one as λx=>(match x with | .int i=>.ok (.int i,h) | .bl b=>.ok (.int (if b then 1 else 0),h)|_=>.stuck)
 | .maxl,as,h=>one as λx=>N7 x λa=>(match qH h a with
  |some xs=>match (zR xs).bind qAL with|some k=>.ok (.int k,h)|none=>.stuck
  |none=>.stuck)
 | .bits,as,h=>one as λx=>(match x with | .int i=>.ok (.int ((PySem.Builtin.Int.intBits i:Nat):Int),h)|_=>.stuck)
 | .repr,as,h=>one as λx=>qDF h x
 | .sorted,as,h=>one as λx=>N7 x λa=>(match qH h a with
  |some xs=>match zR xs with|some is=>if is.length<64 then newL ((zo is).map V.int) h else .stuck|none=>.stuck
  |none=>.stuck)
noncomputable def qBM:Mt->Nat->List V->AH->RV
 | .cnt,p,[y],h=>match qo h p with
  |some xs=>if (flat y&&xs.all flat)=true then .ok (.int (xs.countP λz=>_L.eqV z y),h) else .stuck
  |none=>.stuck
 |_,_,_,_=>.stuck
noncomputable def zj(h:AH):V->Option String
 | .non=>some "NoneType"
 | .bl _=>some "bool"
 | .int _=>some "int"
 | .str _=>some "str"
 | .ref a=>match h[a]? with|some (.lst _ _)=>some "list" | some (.tup _)=>some "tuple" | some (.ob (.dct _))=>some "dict" | _=>none
 |_=>none
noncomputable def qW(t c:String):Bool:=t==c||(t=="bool"&&c=="int")
inductive Src|list(a:Nat)|tupl(a:Nat)|rng(lo:Int)(n:Nat)|zip(a b:Nat)|enum(a:Nat)|rngd(lo:Int)(n:Nat)
noncomputable def Q8(h:AH):Src->Option Nat
 | .list a=>(qH h a).map List.length
 | .tupl a=>(qU h a).map List.length
 | .rng _ n=>some n
 | .zip a b=>match qH h a,qH h b with|some xs,some ys=>some (min xs.length ys.length)|_,_=>none
 | .enum a=>(qH h a).map List.length
 | .rngd _ n=>some n
noncomputable def qd(h:AH)(i:Nat):Src->Option (V×AH)
 | .list a=>match qH h a with|some xs=>xs[i]?.map λx=>(x,h)|none=>none
 | .tupl a=>match qU h a with|some xs=>xs[i]?.map λx=>(x,h)|none=>none
 | .rng lo n=>if i<n then some (.int (lo+(i:Int)),h) else none
 | .zip a b=>match qH h a,qH h b with
  |some xs,some ys=>match xs[i]?,ys[i]? with|some x,some y=>some (.ref h.length,h++[.tup [x,y]])|_,_=>none
  |_,_=>none
 | .enum a=>match qH h a with|some xs=>xs[i]?.map λx=>(.ref h.length,h++[.tup [.int (i:Int),x]])|none=>none
 | .rngd lo n=>if i<n then some (.int (lo-(i:Int)),h) else none
noncomputable def jE(h:AH)(i:Nat):Src->Bool
 | .list a=>match qH h a with|some xs=>decide (xs.length<=i)|none=>false
 | .tupl a=>match qU h a with|some xs=>decide (xs.length<=i)|none=>false
 | .rng _ n=>decide (n<=i)
 | .zip a b=>match qH h a,qH h b with|some xs,some ys=>decide (xs.length<=i\/ys.length<=i)|_,_=>false
 | .enum a=>match qH h a with|some xs=>decide (xs.length<=i)|none=>false
 | .rngd _ n=>decide (n<=i)
noncomputable def Qv:List Nat->List V->St->Option St
 | [],[],σ=>some σ
 |i::is,x::xs,σ=>Qv is xs (σ.set i (some x))
 |_,_,_=>none
noncomputable def store:Tg->V->St->AH->Option St
 | .name i,v,σ,_=>some (σ.set i (some v))
 | .tup is,.ref a,σ,h=>match qU h a with|some xs=>Qv is xs σ | none=>none
 | .tup _,_,_,_=>none
noncomputable def Jf(s:Src)(g:Tg)(c:St->AH->Res (Bool×AH))(e:St->AH->RV)(D:Nat):Nat->Nat->List V->St->AH->RV
 | 0,i,_,_,h=>if jE h i s then .ok (.ref D,h) else .stuck
 |n+1,i,ys,σ,h=>match qd h i s with
  |some (x,h1)=>match store g x σ h1 with
   |some σ1=>(c σ1 h1).bind λ(b,h2)=>
    if b then (e σ1 h2).bind λ(y,h3)=>if h3[D]?=some (.lst false ys)/\ys.length<lim then Jf s g c e D n (i+1) (ys++[y]) σ1 (h3.set D (.lst false (ys++[y]))) else .stuck
    else if h2[D]?=some (.lst false ys) then Jf s g c e D n (i+1) ys σ1 h2 else .stuck
   |none=>.stuck
  |none=>.stuck
noncomputable def asB(r:RV):Res (Bool×AH):=r.bind λ(v,h)=>match v with | .bl b=>.ok (b,h)|_=>.stuck
section
variable (F:Nat->List V->AH->RV)
mutual
noncomputable def ev:E->St->AH->RV
 | .var i=>λσ h=>match σ[i]? with|some (some v)=>.ok (v,h)|_=>.stuck
 | .cst v=>λ_ h=>.ok (v,h)
 | .glob g=>λ_ h=>.ok (.ref g,h)
 | .bin op a b=>λσ h=>(ev a σ h).bind λ(x,h1)=>(ev b σ h1).bind λ(y,h2)=>Y3 op x y h2
 | .neg a=>λσ h=>(ev a σ h).bind λ(x,h1)=>match x with | .int i=>.ok (.int (-i),h1)|_=>.stuck
 | .cmp op a b=>λσ h=>(ev a σ h).bind λ(x,h1)=>(ev b σ h1).bind λ(y,h2)=>h9 op x y h2
 | .cmp2 o1 o2 a b c=>λσ h=>(ev a σ h).bind λ(x,h1)=>(ev b σ h1).bind λ(y,h2)=>match N5 o1 x y h2 with
  |some true=>(ev c σ h2).bind λ(z,h3)=>h9 o2 y z h3
  |some false=>.ok (.bl false,h2)
  |none=>.stuck
 | .cmp3 o1 o2 o3 a b c d=>λσ h=>(ev a σ h).bind λ(x,h1)=>(ev b σ h1).bind λ(y,h2)=>match N5 o1 x y h2 with
  |some true=>(ev c σ h2).bind λ(z,h3)=>match N5 o2 y z h3 with
   |some true=>(ev d σ h3).bind λ(w,h4)=>h9 o3 z w h4
   |some false=>.ok (.bl false,h3)
   |none=>.stuck
  |some false=>.ok (.bl false,h2)
  |none=>.stuck
 | .and a b=>λσ h=>(asB (ev a σ h)).bind λ(x,h1)=>if x then ev b σ h1 else .ok (.bl false,h1)
 | .or a b=>λσ h=>(asB (ev a σ h)).bind λ(x,h1)=>if x then .ok (.bl true,h1) else ev b σ h1
 | .not a=>λσ h=>(asB (ev a σ h)).bind λ(x,h1)=>.ok (.bl (!x),h1)
 | .call f as=>λσ h=>(evs as σ h).bind λ(xs,h1)=>(F f xs h1).nx
 | .blt f as=>λσ h=>(evs as σ h).bind λ(xs,h1)=>qB8 f xs h1
 | .isi a ts=>λσ h=>(ev a σ h).bind λ(x,h1)=>match zj h1 x with|some t=>.ok (.bl (ts.any (qW t)),h1)|none=>.stuck
 | .idx a b=>λσ h=>(ev a σ h).bind λ(x,h1)=>(ev b σ h1).bind λ(y,h2)=>match x,y with
  | .ref p,.int i=>match items h2 p with
   |some xs=>match (ixN xs.length i).bind λj=>xs[j]? with|some v=>.ok (v,h2)|none=>.stuck
   |none=>.stuck
  |_,_=>.stuck
 | .rev a=>λσ h=>(ev a σ h).bind λ(x,h1)=>N7 x λp=>(match qH h1 p with|some xs=>newL xs.reverse h1|none=>.stuck)
 | .sl a lo hi=>λσ h=>(ev a σ h).bind λ(x,h1)=>(evs lo σ h1).bind λ(l,h2)=>(evs hi σ h2).bind λ(u,h3)=>
  match x,zR l,zR u with
  | .ref p,some l,some u=>match qH h3 p with
   |some xs=>newL (cut xs l.head? u.head?) h3
   |none=>match qU h3 p with
    |some xs=>if _H.sIx xs.length 0 l.head?=0/\_H.sIx xs.length xs.length u.head?=xs.length then .stuck else newT (cut xs l.head? u.head?) h3
    |none=>.stuck
  |_,_,_=>.stuck
 | .lst as=>λσ h=>(evs as σ h).bind λ(xs,h1)=>if xs.length<=lim then newL xs h1 else .stuck
 | .tup as=>λσ h=>(evs as σ h).bind λ(xs,h1)=>if xs.length<=lim then newT xs h1 else .stuck
 | .comp it src g c e=>λσ h=>(evi it σ h).bind λ(s,h1)=>match Q8 (h1++[.lst false []]) s with
  |some n=>Jf s g (evc c) (ev e) h1.length n 0 [] (_L.inner src σ) (h1++[.lst false []])
  |none=>.stuck
 | .app a b=>λσ h=>(ev a σ h).bind λ(x,h1)=>match x with
  | .ref p=>(match qH h1 p with
   |some _=>(ev b σ h1).bind λ(y,h2)=>match qo h2 p with
    |some xs=>if xs.length<lim then .ok (.non,h2.set p (.lst false (xs++[y]))) else .stuck
    |none=>.stuck
   |none=>.stuck)
  |_=>.stuck
 | .sset a=>λσ h=>(ev a σ h).bind λ(x,h1)=>match x with | .ref p=>(match qH h1 p with|some ys=>(match zR ys with|some is=>if is.length<64 then newL ((zo (uniq is)).map V.int) h1 else .stuck|none=>.stuck)|none=>.stuck)|_=>.stuck
 | .nset a=>λσ h=>(ev a σ h).bind λ(x,h1)=>match x with | .ref p=>(match qH h1 p with|some ys=>(match zR ys with|some is=>if is.length<1000 then .ok (.int ((Y8 is:Nat):Int),h1) else .stuck|none=>.stuck)|none=>.stuck)|_=>.stuck
 | .lrng a=>λσ h=>(ev a σ h).bind λ(x,h1)=>match x with | .int j=>if -1000000<=j/\j<=100000 then newL (jG 0 j.toNat) h1 else .stuck|_=>.stuck
 | .dnew=>λ_ h=>.ok (.ref h.length,h++[.ob (.dct [])])
 | .meth m a as=>λσ h=>(ev a σ h).bind λ(x,h1)=>match x with
  | .ref p=>(match qH h1 p with
   |some _=>(evs as σ h1).bind λ(ys,h2)=>qBM m p ys h2
   |none=>.stuck)
  |_=>.stuck
noncomputable def evs:Es->St->AH->Res (List V×AH)
 | .nil=>λ_ h=>.ok ([],h)
 | .cons a as=>λσ h=>(ev a σ h).bind λ(x,h1)=>(evs as σ h1).bind λ(xs,h2)=>.ok (x::xs,h2)
noncomputable def evc:Es->St->AH->Res (Bool×AH)
 | .nil=>λ_ h=>.ok (true,h)
 | .cons a _=>λσ h=>asB (ev a σ h)
noncomputable def evi:Itr->St->AH->Res (Src×AH)
 | .list a=>λσ h=>(ev a σ h).bind λ(x,h1)=>match x with | .ref p=>(match h1[p]? with|some (.lst _ _)=>.ok (.list p,h1)|some (.tup _)=>.ok (.tupl p,h1)|_=>.stuck)|_=>.stuck
 | .rng1 a=>λσ h=>(ev a σ h).bind λ(x,h1)=>match x with | .int j=>if -1000000<=j/\j<=1000000 then .ok (.rng 0 j.toNat,h1) else .stuck|_=>.stuck
 | .rng2 a b=>λσ h=>(ev a σ h).bind λ(x,h1)=>(ev b σ h1).bind λ(y,h2)=>match x,y with
  | .int i,.int j=>if (-1000000<=i/\i<=1000000)/\-1000000<=j/\j<=1000000 then .ok (.rng i (j-i).toNat,h2) else .stuck
  |_,_=>.stuck
 | .zip a b=>λσ h=>(ev a σ h).bind λ(x,h1)=>(ev b σ h1).bind λ(y,h2)=>match x,y with
  | .ref p,.ref q=>match qH h2 p,qH h2 q with|some _,some _=>.ok (.zip p q,h2)|_,_=>.stuck
  |_,_=>.stuck
 | .enum a=>λσ h=>(ev a σ h).bind λ(x,h1)=>match x with | .ref p=>(match qH h1 p with|some _=>.ok (.enum p,h1)|none=>.stuck)|_=>.stuck
 | .rng3 a b=>λσ h=>(ev a σ h).bind λ(x,h1)=>(ev b σ h1).bind λ(y,h2)=>match x,y with
  | .int i,.int j=>if (-1000000<=i/\i<=1000000)/\-1000000<=j/\j<=1000000 then .ok (.rngd i (i-j).toNat,h2) else .stuck
  |_,_=>.stuck
end
inductive Out|nx(σ:St)|rt(v:V)|bk(σ:St)|ct(σ:St)
noncomputable abbrev RS:=Res (Out×AH)
noncomputable def Y2(s:Src)(g:Tg)(b:St->AH->RS):Nat->Nat->St->AH->RS
 | 0,i,σ,h=>if jE h i s then .ok (.nx σ,h) else .stuck
 |n+1,i,σ,h=>match qd h i s with
  |some (x,h1)=>match store g x σ h1 with
   |some σ1=>(b σ1 h1).bind λ(o,h2)=>match o with
    | .nx σ2=>Y2 s g b n (i+1) σ2 h2
    | .ct σ2=>Y2 s g b n (i+1) σ2 h2
    | .bk σ2=>.ok (.nx σ2,h2)
    | .rt v=>.ok (.rt v,h2)
   |none=>.stuck
  |none=>.stuck
noncomputable def jW(c:St->AH->Res (Bool×AH))(b:St->AH->RS):Nat->St->AH->RS
 | 0,_,_=>.stuck
 |n+1,σ,h=>(c σ h).bind λ(t,h1)=>if t then (b σ h1).bind λ(o,h2)=>match o with
   | .nx σ2=>jW c b n σ2 h2
   | .ct σ2=>jW c b n σ2 h2
   | .bk σ2=>.ok (.nx σ2,h2)
   | .rt v=>.ok (.rt v,h2)
  else .ok (.nx σ,h1)
noncomputable def qB4:Nat:=1000000
mutual
noncomputable def ex:S->St->AH->RS
 | .asg g e=>λσ h=>(ev F e σ h).bind λ(x,h1)=>match store g x σ h1 with|some σ1=>.ok (.nx σ1,h1)|none=>.stuck
 | .put o i v=>λσ h=>(ev F v σ h).bind λ(x,h1)=>(ev F o σ h1).bind λ(p,h2)=>(ev F i σ h2).bind λ(k,h3)=>match p,k with
  | .ref a,.int k=>match qo h3 a with
   |some xs=>match ixN xs.length k with|some j=>.ok (.nx σ,h3.set a (.lst false (xs.set j x)))|none=>.stuck
   |none=>match JL h3 a with
    |some kvs=>if flat x=true/\kvs.length<lim then .ok (.nx σ,h3.set a (.ob (.dct (qDb kvs k x)))) else .stuck
    |none=>.stuck
  |_,_=>.stuck
 | .expr e=>λσ h=>(ev F e σ h).bind λ(_,h1)=>.ok (.nx σ,h1)
 | .ret e=>λσ h=>(ev F e σ h).bind λ(x,h1)=>.ok (.rt x,h1)
 | .ifs c t u=>λσ h=>(asB (ev F c σ h)).bind λ(x,h1)=>if x then exs t σ h1 else exs u σ h1
 | .for_ g it b=>λσ h=>(evi F it σ h).bind λ(s,h1)=>match Q8 h1 s with
  |some n=>Y2 s g (exs b) n 0 σ h1
  |none=>.stuck
 | .while_ c b=>λσ h=>jW (λσ h=>asB (ev F c σ h)) (exs b) qB4 σ h
 | .stop=>λ_ _=>.stuck
noncomputable def exs:Ss->St->AH->RS
 | .nil=>λσ h=>.ok (.nx σ,h)
 | .cons s r=>λσ h=>(ex s σ h).bind λ(o,h1)=>match o with
  | .nx σ1=>exs r σ1 h1
  |o=>.ok (o,h1)
end
end
structure Fn where
 npar:Nat
 nslot:Nat
 body:Ss
noncomputable def Fk(tb:List Fn):Nat->Nat->List V->AH->RV
 | 0,_,_,_=>.stuck
 |k+1,f,vs,h=>match tb[f]? with
  |some d=>if vs.length=d.npar/\d.npar<=d.nslot then (exs (Fk tb k) d.body (vs.map some++List.replicate (d.nslot-d.npar) none) h).bind λ(o,h1)=>match o with
    | .nx _=>.ok (.non,h1)
    | .rt v=>.ok (v,h1)
    |_=>.stuck
   else .stuck
  |none=>.stuck
open PySem PySem.Spec PyProof.Rows
open _L (Hp HO Cx PE PT PA PS PSs TE TT TA TS VK upd qF qG SqL SqT QY)
def rv(φ:List Addr):V->V->Prop
 | .ref i,.ref a=>φ[i]?=some a
 | .non,.non=>True
 | .bl b,.bl c=>b=c
 | .int i,.int j=>i=j
 | .str x,.str y=>x=y
 |_,_=>False
abbrev rvs(φ:List Addr):List V->List V->Prop:=Paired (rv φ)
def ropt(φ:List Addr):Option V->Option V->Prop
 |some v,oc=>∃w,oc=some w/\rv φ v w
 |none,_=>True
abbrev rst(φ:List Addr):St->St->Prop:=Paired (ropt φ)
def Ext(φ φ':List Addr):Prop:=∃r,φ'=φ++r
theorem Ext.refl(φ:List Addr):Ext φ φ:=⟨[],by simp⟩
theorem Ext.trans{a b c:List Addr}(h:Ext a b)(g:Ext b c):Ext a c:=by
 obtain⟨r,rfl⟩:=h;obtain⟨q,rfl⟩:=g;exact⟨r++q,by simp⟩
theorem Ext.get{φ φ':List Addr}(x:Ext φ φ'){i:Nat}{a:Addr}(h:φ[i]?=some a):φ'[i]?=some a:=by
 obtain⟨r,rfl⟩:=x;rw[wD (wC.mp h).1];exact h
theorem rv.mono{φ φ':List Addr}(x:Ext φ φ'):∀{v w:V},rv φ v w->rv φ' v w
 | .ref i,.ref a,h=>x.get h
 | .non,.non,h=>h
 | .bl _,.bl _,h=>h
 | .int _,.int _,h=>h
 | .str _,.str _,h=>h
 | .byt _,_,h=>by cases h
 | .flt _,_,h=>by cases h
 | .ty _,_,h=>by cases h
theorem rvs.mono{φ φ':List Addr}(x:Ext φ φ'){vs ws:List V}(h:rvs φ vs ws):rvs φ' vs ws:=_L.Paired.mapP h λ_ _ r=>rv.mono x r
theorem ropt.mono{φ φ':List Addr}(x:Ext φ φ'):∀{v w:Option V},ropt φ v w->ropt φ' v w
 |some v,oc,h=>by obtain⟨w,e,r⟩:=h;exact⟨w,e,rv.mono x r⟩
 |none,_,_=>trivial
theorem rst.mono{φ φ':List Addr}(x:Ext φ φ'){σ τ:St}(h:rst φ σ τ):rst φ' σ τ:=_L.Paired.mapP h λ_ _ r=>ropt.mono x r
theorem qJ{α β:Type}{R:α->β->Prop}:∀{xs:List α}{ys:List β}{i:Nat}{x:α},Paired R xs ys->xs[i]?=some x->∃y,ys[i]?=some y/\R x y
 |_,_,_,_,.nil,e=>by simp at e
 |_,_,0,_,.cons r _,e=>by simp at e;subst e;exact⟨_,rfl,r⟩
 |_,_,i+1,x,.cons _ t,e=>by
  obtain⟨u,h1,h2⟩:=qJ (i:=i) (x:=x) t (by simpa using e);exact⟨u,by simpa using h1,h2⟩
theorem zK{α β:Type}{R:α->β->Prop}{x:α}{u:β}(r:R x u):∀{xs:List α}{us:List β}(i:Nat),Paired R xs us->Paired R (xs.set i x) (us.set i u)
 |_,_,_,.nil=>.nil
 |_,_,0,.cons _ t=>.cons r t
 |_,_,i+1,.cons q t=>.cons q (zK r i t)
theorem qP{α β:Type}{R:α->β->Prop}:∀{xs ys:List α}{us ws:List β},Paired R xs us->Paired R ys ws->Paired R (xs++ys) (us++ws)
 |_,_,_,_,.nil,s=>s
 |_,_,_,_,.cons r t,s=>.cons r (qP t s)
theorem zf{α β:Type}{R:α->β->Prop}:∀{xs:List α}{us:List β}(n:Nat),Paired R xs us->Paired R (xs.take n) (us.take n)
 |_,_,0,_=>.nil
 |_,_,_+1,.nil=>.nil
 |_,_,n+1,.cons r t=>.cons r (zf n t)
theorem Qb{α β:Type}{R:α->β->Prop}:∀{xs:List α}{us:List β}(n:Nat),Paired R xs us->Paired R (xs.drop n) (us.drop n)
 |_,_,0,r=>r
 |_,_,_+1,.nil=>.nil
 |_,_,n+1,.cons _ t=>Qb n t
theorem Qw{α β:Type}{R:α->β->Prop}{xs:List α}{us:List β}(h:Paired R xs us):∀k:Nat,Paired R (List.replicate k xs).flatten (List.replicate k us).flatten
 | 0=>.nil
 |k+1=>by
  rw[List.replicate_succ,List.replicate_succ,List.flatten_cons,List.flatten_cons];exact qP h (Qw h k)
noncomputable def kk(p:Int×V):_L.Key×V:=(.inl p.1,p.2)
noncomputable def O.mu:O->Bool
 | .lst false _=>true | .ob (.dct _)=>true|_=>false
def exP(a C:Addr):Heap->Prop:=λh=>∃o,h.get? a=some o/\o.cls=.ref C
def ro(K:PySem.W.Frag)(φ:List Addr)(H:Hp)(a:Addr):O->Prop
 | .lst false xs=>∃ys,H a=some (.lst ys)/\rvs φ xs ys
 | .lst true xs=>∃ys,((∃o,H a=some (.frz o (.lst ys)))\/SqL K (λ_=>none) a ys)/\rvs φ xs ys
 | .tup xs=>∃ys,SqT K H a ys/\rvs φ xs ys
 | .ob (.dct kvs)=>H a=some (.dK (kvs.map kk))
 | .ob (.exn x)=>∃C,PySem.W.nsIn K mainGlobals x=some (some (.ref C))/\H a=some (.ext (exP a C))
structure Rl(K:PySem.W.Frag)(G:List Addr)(φ:List Addr)(h:AH)(H:Hp):Prop where
 len:φ.length=h.length
 glob:Ext G φ
 obj:∀(i:Nat) o a,h[i]?=some o->φ[i]?=some a->ro K φ H a o
 inj:∀(i j:Nat) x y a,x.mu=true->y.mu=true->h[i]?=some x->h[j]?=some y->φ[i]?=some a->φ[j]?=some a->i=j
section
variable{K:PySem.W.Frag}{G φ φ':List Addr}{h:AH}{H H':Hp}{a b p:Addr}
theorem Y4{xs:List V}(s:QY H H')(q:SqT K H a xs):SqT K H' a xs:=by
 rcases q with(h|⟨o,h⟩)|h
 ·exact .inl (.inl (s _ _ h))
 ·exact .inl (.inr ⟨o,s _ _ h⟩)
 ·exact .inr h
theorem j7{xs:List V}(q:SqL K (λ_=>none) a xs):SqL K H a xs:=by
 rcases q with(h|⟨o,h⟩)|h
 ·cases h
 ·cases h
 ·exact .inr h
theorem je{o:HO}(hp:H p=none):QY H (upd H p o):=λb u e=>by rw[qG (_L.ne_of_none e hp)];exact e
theorem ro.keep{o:O}(x:Ext φ φ')(s:QY H H')(r:ro K φ H a o):ro K φ' H' a o:=by
 match o,r with
 | .lst false xs,⟨ys,e,r⟩=>exact⟨ys,s _ _ e,rvs.mono x r⟩
 | .lst true xs,⟨ys,.inl ⟨o,e⟩,r⟩=>exact⟨ys,.inl ⟨o,s _ _ e⟩,rvs.mono x r⟩
 | .lst true xs,⟨ys,.inr e,r⟩=>exact⟨ys,.inr e,rvs.mono x r⟩
 | .tup xs,⟨ys,e,r⟩=>exact⟨ys,Y4 s e,rvs.mono x r⟩
 | .ob (.dct _),e=>exact s _ _ e
 | .ob (.exn _),⟨C,e1,e2⟩=>exact⟨C,e1,s _ _ e2⟩
def Wr(w:HO):Prop:=(∃zs,w=.lst zs)\/∃ks,w=.dK ks
theorem ro.wr{o:O}(m:o.mu=true)(r:ro K φ H a o):∃w,H a=some w/\Wr w:=by
 match o,m,r with
 | .lst false xs,_,⟨ys,e,r⟩=>exact⟨_,e,.inl ⟨_,rfl⟩⟩
 | .ob (.dct _),_,e=>exact⟨_,e,.inr ⟨_,rfl⟩⟩
theorem Wr.ne{w v:HO}(h:Wr w)(e:H a=some v)(hb:H b=some w)(h1:∀zs,v≠.lst zs)(h2:∀ks,v≠.dK ks):a≠b:=λz=>by
 subst z;rw[e]at hb;cases hb;rcases h with⟨zs,rfl⟩|⟨ks,rfl⟩
 ·exact h1 _ rfl
 ·exact h2 _ rfl
theorem ro.other{o:O}{w w':HO}(hw:Wr w)(hb:H b=some w)(hne:o.mu=true->a≠b)(r:ro K φ H a o):ro K φ (upd H b w') a o:=by
 match o,r with
 | .lst false xs,⟨ys,e,r⟩=>exact⟨ys,by rw[qG (hne rfl)];exact e,r⟩
 | .lst true xs,⟨ys,.inl ⟨o,e⟩,r⟩=>exact⟨ys,.inl ⟨o,by rw[qG (hw.ne e hb (λ_ z=>by cases z) (λ_ z=>by cases z))];exact e⟩,r⟩
 | .lst true xs,⟨ys,.inr e,r⟩=>exact⟨ys,.inr e,r⟩
 | .tup xs,⟨ys,e,r⟩=>
  refine⟨ys,?_,r⟩;rcases e with(h|⟨o,h⟩)|h
  ·exact .inl (.inl (by rw[qG (hw.ne h hb (λ_ z=>by cases z) (λ_ z=>by cases z))];exact h))
  ·exact .inl (.inr ⟨o,by rw[qG (hw.ne h hb (λ_ z=>by cases z) (λ_ z=>by cases z))];exact h⟩)
  ·exact .inr h
 | .ob (.dct _),e=>exact(by show upd H b _ a=_;rw[qG (hne rfl)];exact e)
 | .ob (.exn _),⟨C,e1,e2⟩=>exact⟨C,e1,by rw[qG (hw.ne e2 hb (λ_ z=>by cases z) (λ_ z=>by cases z))];exact e2⟩
theorem Rl.at(R:Rl K G φ h H){i:Nat}{o:O}(e:h[i]?=some o):∃a,φ[i]?=some a/\ro K φ H a o:=by
 have hi:i<φ.length:=by rw[R.len];exact(wC.mp e).1
 exact⟨φ[i],wE hi,R.obj i o _ e (wE hi)⟩
theorem Rl.new(R:Rl K G φ h H)(hp:H p=none){o:O}{ob:HO}(n:ro K (φ++[p]) (upd H p ob) p o):Rl K G (φ++[p]) (h++[o]) (upd H p ob):=by
 have x:Ext φ (φ++[p]):=⟨[p],rfl⟩
 refine⟨by simp[R.len],R.glob.trans x,λi u a e1 e2=>?_,λi j xs ys a m1 m2 e1 e2 e3 e4=>?_⟩
 ·by_cases hi:i<h.length
  ·rw[wD hi]at e1;rw[wD (by rw[R.len];exact hi)]at e2;exact(R.obj i u a e1 e2).keep x (je hp)
  ·have hi':i=h.length:=by
    have:=(wC.mp e1).1;simp at this;omega
   subst hi';simp at e1;rw[<-R.len]at e2;simp at e2;subst e1 e2;exact n
 ·have lt:∀{k:Nat}{z:O},(h++[o])[k]?=some z->(h[k]?=some z/\k<h.length)\/k=h.length:=λ{k zs} e=>by
   by_cases hk:k<h.length
   ·rw[wD hk]at e;exact .inl ⟨e,hk⟩
   ·have:=(wC.mp e).1;simp at this;exact .inr (by omega)
  have old:∀{k:Nat}{b:Addr},k<h.length->(φ++[p])[k]?=some b->φ[k]?=some b:=λ{k b} hk e=>by
   rwa [wD (by rw[R.len];exact hk)]at e
  have newA:∀{b:Addr},(φ++[p])[h.length]?=some b->b=p:=λ{b} e=>by
   rw[<-R.len]at e;simp at e;exact e.symm
  rcases lt e1 with⟨e1,h1⟩|rfl<;>rcases lt e2 with⟨e2,h2⟩|rfl
  ·exact R.inj i j xs ys a m1 m2 e1 e2 (old h1 e3) (old h2 e4)
  ·have ea:=newA e4;subst ea;obtain⟨w,hz,_⟩:=(R.obj i _ a e1 (old h1 e3)).wr m1;rw[hp]at hz;cases hz
  ·have ea:=newA e3;subst ea;obtain⟨w,hz,_⟩:=(R.obj j _ a e2 (old h2 e4)).wr m2;rw[hp]at hz;cases hz
  ·rfl
theorem Rl.more(R:Rl K G φ h H)(hp:H p=none){ob:HO}:Rl K G φ h (upd H p ob):=
 ⟨R.len,R.glob,λi u a e1 e2=>(R.obj i u a e1 e2).keep (Ext.refl _) (je hp),R.inj⟩
theorem Rl.exn(R:Rl K G φ h H){i:Nat}{x:Str}(e:qCl h i=some x):∃a C,φ[i]?=some a/\PySem.W.nsIn K mainGlobals x=some (some (.ref C))/\H a=some (.ext (exP a C)):=by
 unfold qCl at e;split at e
 ·rename_i c q;cases e;obtain⟨a,ea,C,r1,r2⟩:=R.at q;exact⟨a,C,ea,r1,r2⟩
 ·cases e
theorem Rl.newL(R:Rl K G φ h H)(hp:H p=none){xs ys:List V}(r:rvs φ xs ys):Rl K G (φ++[p]) (h++[.lst false xs]) (upd H p (.lst ys)):=
 R.new hp ⟨ys,qF,rvs.mono ⟨[p],rfl⟩ r⟩
theorem Rl.newT(R:Rl K G φ h H)(hp:H p=none){xs ys:List V}(r:rvs φ xs ys):Rl K G (φ++[p]) (h++[.tup xs]) (upd H p (.tup ys)):=
 R.new hp ⟨ys,.inl (.inl qF),rvs.mono ⟨[p],rfl⟩ r⟩
theorem Rl.lastRef(R:Rl K G φ h H):(φ++[p])[h.length]?=some p:=by rw[<-R.len];simp
theorem Rl.write(R:Rl K G φ h H){i:Nat}{x y:O}{w':HO}(mx:x.mu=true)(my:y.mu=true)(e:h[i]?=some x)(ea:φ[i]?=some a)(n:ro K φ (upd H a w') a y):Rl K G φ (h.set i y) (upd H a w'):=by
 have hi:=(wC.mp e).1;obtain⟨w,hw,ww⟩:=(R.obj i _ a e ea).wr mx;have lk:∀{k:Nat}{z:O},z.mu=true->(h.set i y)[k]?=some z->∃z',z'.mu=true/\h[k]?=some z':=λ{k zs} m q=>by
  by_cases hk:k=i
  ·subst hk;exact⟨x,mx,e⟩
  ·rw[wa (Ne.symm hk)]at q;exact⟨zs,m,q⟩
 refine⟨by simp[R.len],R.glob,λk u b e1 e2=>?_,λk l us vs b m1 m2 e1 e2 e3 e4=>?_⟩
 ·by_cases hk:k=i
  ·subst hk;rw[wj hi]at e1;rw[ea]at e2;cases e1;cases e2;exact n
  ·rw[wa (Ne.symm hk)]at e1;refine(R.obj k u b e1 e2).other ww hw λmu hb=>?_;subst hb;exact hk (R.inj k i u x b mu mx e1 e e2 ea)
 ·obtain⟨z1,n1,q1⟩:=lk m1 e1;obtain⟨z2,n2,q2⟩:=lk m2 e2;exact R.inj k l z1 z2 b n1 n2 q1 q2 e3 e4
theorem Rl.set(R:Rl K G φ h H){i:Nat}{xs ys zs:List V}(e:h[i]?=some (.lst false xs))(ea:φ[i]?=some a)(r:rvs φ ys zs):Rl K G φ (h.set i (.lst false ys)) (upd H a (.lst zs)):=
 R.write rfl rfl e ea ⟨zs,qF,r⟩
theorem Rl.dct(R:Rl K G φ h H){i:Nat}{kvs:List (Int×V)}(e:JL h i=some kvs):∃a,φ[i]?=some a/\h[i]?=some (.ob (.dct kvs))/\H a=some (.dK (kvs.map kk)):=by
 unfold JL at e;split at e
 ·rename_i zs q;cases e;obtain⟨a,ea,r⟩:=R.at q;exact⟨a,ea,q,r⟩
 ·cases e
theorem Rl.lst(R:Rl K G φ h H){i:Nat}{xs:List V}(e:qH h i=some xs):∃a ys,φ[i]?=some a/\SqL K H a ys/\rvs φ xs ys:=by
 unfold qH at e;split at e
 ·rename_i fz zs q;cases e;obtain⟨a,ea,r⟩:=R.at q;cases fz with
  |false=>obtain⟨ys,e,r⟩:=r;exact⟨a,ys,ea,.inl (.inl e),r⟩
  |true=>
   obtain⟨ys,e,r⟩:=r;rcases e with⟨o,e⟩|e
   ·exact⟨a,ys,ea,.inl (.inr ⟨o,e⟩),r⟩
   ·exact⟨a,ys,ea,j7 e,r⟩
 ·cases e
theorem Rl.tup(R:Rl K G φ h H){i:Nat}{xs:List V}(e:qU h i=some xs):∃a ys,φ[i]?=some a/\SqT K H a ys/\rvs φ xs ys:=by
 unfold qU at e;split at e
 ·rename_i zs q;cases e;obtain⟨a,ea,ys,e,r⟩:=R.at q;exact⟨a,ys,ea,e,r⟩
 ·cases e
theorem Rl.mut(R:Rl K G φ h H){i:Nat}{xs:List V}(e:qo h i=some xs):h[i]?=some (.lst false xs)/\∃a ys,φ[i]?=some a/\H a=some (.lst ys)/\rvs φ xs ys:=by
 unfold qo at e;split at e
 ·rename_i zs q;cases e;obtain⟨a,ea,ys,e,r⟩:=R.at q;exact⟨q,a,ys,ea,e,r⟩
 ·cases e
theorem Rl.its(R:Rl K G φ h H){i:Nat}{xs:List V}(e:items h i=some xs):∃a ys,φ[i]?=some a/\(SqL K H a ys\/SqT K H a ys)/\rvs φ xs ys:=by
 unfold items at e;split at e
 ·rename_i fz zs q;cases e;obtain⟨a,ys,h1,h2,h3⟩:=R.lst (i:=i) (xs:=xs) (by unfold qH;rw[q]);exact⟨a,ys,h1,.inl h2,h3⟩
 ·rename_i zs q;cases e;obtain⟨a,ys,h1,h2,h3⟩:=R.tup (i:=i) (xs:=xs) (by unfold qU;rw[q]);exact⟨a,ys,h1,.inr h2,h3⟩
 ·cases e
end
open _L (PG Inv RelV Vals EP TP AP SP OpR qj R2)
theorem tN{α β:Type}{r:Res α}{f:α->Res β}{x:β}(h:r.bind f=.ok x):∃a,r=.ok a/\f a=.ok x:=by
 cases r with
 |ok a=>exact⟨a,rfl,h⟩
 |exc c h'=>cases h
 |stuck=>cases h
theorem qB{φ:List Addr}{i:Int}{w:V}(h:rv φ (.int i) w):w=.int i:=by
 cases w with
 |int j=>exact congrArg V.int (show i=j from h).symm
 |_=>exact False.elim h
theorem zE{φ:List Addr}{i:Bool}{w:V}(h:rv φ (.bl i) w):w=.bl i:=by
 cases w with
 |bl j=>exact congrArg V.bl (show i=j from h).symm
 |_=>exact False.elim h
theorem zG{φ:List Addr}{i:Str}{w:V}(h:rv φ (.str i) w):w=.str i:=by
 cases w with
 |str j=>exact congrArg V.str (show i=j from h).symm
 |_=>exact False.elim h
theorem qp{φ:List Addr}{w:V}(h:rv φ .non w):w=.non:=by
 cases w with
 |non=>rfl
 |_=>exact False.elim h
theorem qI{φ:List Addr}{i:Nat}{w:V}(h:rv φ (.ref i) w):∃a,w=.ref a/\φ[i]?=some a:=by
 cases w with
 |ref j=>exact⟨j,rfl,h⟩
 |_=>exact False.elim h
section
variable (K:PySem.W.Frag)(G:List Addr)(F:Nat->List V->AH->RV)
noncomputable def tE(e:E):TE:=λσc H Q=>∃φ h σ v h',Rl K G φ h H/\rst φ σ σc/\ev F e σ h=.ok (v,h')/\∀φ' H' w,Ext φ φ'->Rl K G φ' h' H'->rv φ' v w->Q w H'
noncomputable def tB(r:St->AH->Res (Bool×AH)):TT:=λσc H Q=>∃φ h σ b h',Rl K G φ h H/\rst φ σ σc/\r σ h=.ok (b,h')/\∀φ' H',Ext φ φ'->Rl K G φ' h' H'->Q b H'
noncomputable abbrev tT(e:E):TT:=tB K G (λσ h=>asB (ev F e σ h))
noncomputable def tL(as:Es):TA:=λσc H Q=>∃φ h σ vs h',Rl K G φ h H/\rst φ σ σc/\evs F as σ h=.ok (vs,h')/\∀φ' H' ws,Ext φ φ'->Rl K G φ' h' H'->rvs φ' vs ws->Q ws H'
end
section
variable{X:Cx}{G:List Addr}{F:Nat->List V->AH->RV}
theorem qi{e:Expr}{t t':TE}(h:PE X e t)(w:∀σ H Q,t' σ H Q->t σ H Q):PE X e t':=λpins s σ H Q I q=>h pins s σ H Q I (w σ H Q q)
theorem S2{e:Expr}{t t':TT}(h:PT X e t)(w:∀σ H Q,t' σ H Q->t σ H Q):PT X e t':=λpins s σ H Q I q=>h pins s σ H Q I (w σ H Q q)
theorem qBo{e:List Expr}{t t':TA}(h:PA X e t)(w:∀σ H Q,t' σ H Q->t σ H Q):PA X e t':=λpos pins s σ H Q I q=>h pos pins s σ H Q I (w σ H Q q)
variable (X G F) in
abbrev SE(e:Expr)(a:E):Prop:=PE X e (tE X.K G F a)
variable (X G F) in
abbrev ST(e:Expr)(a:E):Prop:=PT X e (tT X.K G F a)
variable (X G F) in
abbrev SA(es:List Expr)(as:Es):Prop:=PA X es (tL X.K G F as)
variable{K:PySem.W.Frag}{φ φ':List Addr}{h h1 h2:AH}{H:Hp}{σ σc:St}{a b:E}{x y:V}
theorem zv(R:Rl K G φ h H)(rs:rst φ σ σc)(ea:ev F a σ h=.ok (x,h1))(eb:ev F b σ h1=.ok (y,h2)){Rr:V->V->Hp->Prop}
  (k:∀φ2 H2 xc yc,Ext φ φ2->Rl K G φ2 h2 H2->rv φ2 x xc->rv φ2 y yc->Rr xc yc H2):tE K G F a σc H (λxc H1=>tE K G F b σc H1 (λyc H2=>Rr xc yc H2)):=
 ⟨φ,h,σ,x,h1,R,rs,ea,λφ1 H1 xc e1 R1 r1=>⟨φ1,h1,σ,y,h2,R1,rst.mono e1 rs,eb,λφ2 H2 yc e2 R2 r2=>k φ2 H2 xc yc (e1.trans e2) R2 (rv.mono e2 r1) r2⟩⟩
theorem qBe{i:Nat}{n:Str}{pos:Pos}(hN:X.N[i]?=some n)(hv:_L.Vis X.env.scope n)(hd:(n==("__debug__":Str))=false)(hcd:(n==("__classdict__":Str))=false):SE X G F (.Name n pos) (.var i):=by
 refine qi (_L.pe_var hN hv hd hcd) λσc H Q q=>?_;obtain⟨φ,h,σ,v,h',R,rs,e,k⟩:=q;unfold ev at e;split at e
 ·rename_i w q;cases e;obtain⟨oc,ec,r⟩:=qJ rs q;obtain⟨u,rfl,r⟩:=r;exact⟨u,ec,k φ H u (.refl _) R r⟩
 ·cases e
theorem T4{v:V}{w:V}{σc:St}{H:Hp}{Q:VK}(hr:∀φ,rv φ v w)(q:tE K G F (.cst v) σc H Q):_L.tC w σc H Q:=by
 obtain⟨φ,h,σ,v',h',R,rs,e,k⟩:=q;unfold ev at e;cases e;exact k φ H w (.refl _) R (hr φ)
theorem Q0 {i j pos}:SE X G F (.Constant (.int i) j pos) (.cst (.int i)):=qi _L.pe_int λ_ _ _=>T4 λ_=>rfl
theorem qCT {i j pos}:SE X G F (.Constant (.bool i) j pos) (.cst (.bl i)):=qi _L.pe_bl λ_ _ _=>T4 λ_=>rfl
theorem w9 {j pos}:SE X G F (.Constant .none j pos) (.cst .non):=qi _L.pe_non λ_ _ _=>T4 λ_=>trivial
theorem l7 {i j pos}:SE X G F (.Constant (.str i) j pos) (.cst (.str i)):=qi _L.pe_str λ_ _ _=>T4 λ_=>rfl
theorem qA7{n:Str}{v:V}{u:Value}{pos:Pos}(hg:_L.Gl X n)(hm:X.mg n=some u)(r:RelV v u)(hv:∀φ,rv φ v v)(hd:(n==("__debug__":Str))=false):SE X G F (.Name n pos) (.cst v):=
 qi (_L.pe_glob hg hm r hd) λ_ _ _=>T4 hv
theorem qA4{n:Str}{g:Nat}{a:Addr}{pos:Pos}(hg:_L.Gl X n)(hm:X.mg n=some (.ref a))(hG:G[g]?=some a)(hd:(n==("__debug__":Str))=false):SE X G F (.Name n pos) (.glob g):=by
 refine qi (_L.pe_glob (v:=.ref a) hg hm rfl hd) λσc H Q q=>?_;obtain⟨φ,h,σ,v',h',R,rs,e,k⟩:=q;unfold ev at e;cases e;exact k φ H (.ref a) (.refl _) R (R.glob.get hG)
noncomputable def opB:BOp->Operator
 | .add=>.Add | .sub=>.Sub | .mul=>.Mult | .fdiv=>.FloorDiv | .mod=>.Mod | .pow=>.Pow | .band=>.BitAnd | .shl=>.LShift
def qFJ(i j:Int):Prop:=j≠0/\j.natAbs.log2<9000
theorem Z4:OpR X (binaryOp .FloorDiv) (_L.rI qFJ λi j=>.int (i.fdiv j)):=_L.opI λ_ _ _ _ _ _ _ hc q=>floordiv_int hc.1 q (.inl (PyProof.noPylong_of_log2 hc.2))
def qFG(i j:Int):Prop:=i.natAbs.log2<9000/\j.natAbs.log2<9000
theorem D9{i:Int}(h:i.natAbs.log2<9000):Builtin.Int.intBits i<=2 ^ 20:=by
 unfold Builtin.Int.intBits;have e:(2:Nat) ^ 20=1048576:=by decide
 rw[e];split<;>omega
theorem qAf:OpR X (binaryOp .Mult) (_L.rI qFG λi j=>.int (i*j)):=_L.opI λ_ _ _ _ _ _ _ hc q=>mul_int q (IntMulOk.of_bits (D9 hc.1) (D9 hc.2))
theorem D2{i:Int}(h:mid i=true):i.natAbs.log2<9000:=vm h
noncomputable def qFa(K:PySem.W.Frag):BOp->R2
 | .add=>λx y H Q=>(_L.rI0 (λi j=>.int (i+j)) x y H Q\/_L.rCat x y H Q)\/_L.rCatT K x y H Q
 | .sub=>_L.rI0 λi j=>.int (i-j)
 | .mul=>λx y H Q=>(_L.rI _L.CMul (λi j=>.int (i*j)) x y H Q\/_L.rRep x y H Q)\/_L.rI qFG (λi j=>.int (i*j)) x y H Q
 | .fdiv=>λx y H Q=>_L.rI _L.CDiv (λi j=>.int (i / j)) x y H Q\/_L.rI qFJ (λi j=>.int (i.fdiv j)) x y H Q
 | .mod=>λx y H Q=>_L.rI (λ_ j=>0<j) (λi j=>.int (i % j)) x y H Q\/_L.rI (λ_ j=>j≠0) (λi j=>.int (i.fmod j)) x y H Q
 | .pow=>_L.rI _L.CPow λi j=>.int (i ^ j.toNat)
 | .band=>_L.rI0 λi j=>.int (Builtin.bitAnd i j)
 | .shl=>_L.rI _L.CPow λi j=>.int (i*2 ^ j.toNat)
theorem qAJ:∀op,OpR X (binaryOp (opB op)) (qFa X.K op)
 | .add=>(_L.op_add.or _L.op_cat).or _L.op_catT
 | .sub=>_L.op_sub
 | .mul=>(_L.op_mul.or _L.op_rep).or qAf
 | .fdiv=>_L.op_fdiv.or Z4
 | .mod=>_L.op_mod.or _L.op_modN
 | .pow=>_L.op_pow
 | .band=>_L.op_and
 | .shl=>_L.op_shl
theorem QW:lim<=sizeLine:=by decide
theorem v8:lim<sizeLine:=by decide
theorem G7{i:Int}(h:small i=true):-(2 ^ 64)<i/\i<2 ^ 64:=by
 unfold small two64 at h;have:=vm h;omega
theorem qA6{op:BOp}{v xc yc:V}{h':AH}{Q:VK}(e:Y3 op x y h=.ok (v,h'))(R:Rl K G φ h H)(rx:rv φ x xc)(ry:rv φ y yc)
  (k:∀φ' H' w,Ext φ φ'->Rl K G φ' h' H'->rv φ' v w->Q w H'):qFa K op xc yc H Q:=by
 cases op with
 |add=>
  dsimp only[Y3]at e;split at e
  ·replace e:=qt e;obtain⟨b,rfl,e⟩:=e;split at e
   ·rename_i xs ys e1 e2;split at e
    ·rename_i hl;cases e;obtain⟨q1,a1,ys1,ha1,hH1,r1⟩:=R.mut e1;obtain⟨q2,a2,ys2,ha2,hH2,r2⟩:=R.mut e2;obtain⟨b1,rfl,hb1⟩:=qI rx;obtain⟨b2,rfl,hb2⟩:=qI ry;rw[ha1]at hb1;cases hb1;rw[ha2]at hb2;cases hb2;refine .inl (.inr ⟨a1,a2,ys1,ys2,rfl,rfl,hH1,hH2,?_,λp hp=>k (φ++[p]) _ _ ⟨[p],rfl⟩ (R.newL hp (qP r1 r2)) R.lastRef⟩);have l1:=Paired.length r1;have l2:=Paired.length r2;have:=QW;omega
    ·cases e
   ·split at e
    ·rename_i xs ys e1 e2;split at e
     ·rename_i hl;obtain⟨a1,ys1,ha1,hH1,r1⟩:=R.tup e1;obtain⟨a2,ys2,ha2,hH2,r2⟩:=R.tup e2;obtain⟨b1,rfl,hb1⟩:=qI rx;obtain⟨b2,rfl,hb2⟩:=qI ry;rw[ha1]at hb1;cases hb1;rw[ha2]at hb2;cases hb2;have l1:=Paired.length r1;have l2:=Paired.length r2;refine .inr ⟨a1,a2,ys1,ys2,rfl,rfl,hH1,hH2,?_,?_,λz=>?_,λz p hp=>?_⟩
      ·rintro rfl;exact hl.1 (wl.mp l1)
      ·have:=QW;omega
      ·subst z;rw[if_pos (wl.mp l2)]at e;cases e;exact k φ H _ (.refl _) R ha1
      ·rw[if_neg (λq=>z (by subst q;exact wl.mp l2.symm))]at e;cases e;exact k (φ++[p]) _ _ ⟨[p],rfl⟩ (R.newT hp (qP r1 r2)) R.lastRef
     ·cases e
    ·cases e
  ·replace e:=qf e;obtain⟨i,j,rfl,rfl,e⟩:=e;cases e;cases qB rx;cases qB ry;exact .inl (.inl ⟨_,_,rfl,rfl,k φ H _ (.refl _) R rfl⟩)
 |sub=>
  replace e:=qf e;obtain⟨i,j,rfl,rfl,e⟩:=e;cases e;cases qB rx;cases qB ry;exact⟨_,_,rfl,rfl,k φ H _ (.refl _) R rfl⟩
 |mul=>
  dsimp only[Y3]at e;split at e
  ·split at e
   ·split at e
    ·rename_i xs e1;split at e
     ·rename_i hl;obtain⟨h0,hl,h3⟩:=hl;cases e;obtain⟨q1,a1,ys1,ha1,hH1,r1⟩:=R.mut e1;obtain⟨b1,rfl,hb1⟩:=qI rx;rw[ha1]at hb1;cases hb1;cases qB ry;refine .inl (.inr ⟨a1,_,ys1,rfl,rfl,hH1,by omega,by omega,?_,λp hp=>k (φ++[p]) _ _ ⟨[p],rfl⟩ (R.newL hp (Qw r1 _)) R.lastRef⟩);have l1:=Paired.length r1;have:=QW;rw[<-l1];omega
     ·cases e
    ·cases e
   ·cases e
  ·replace e:=qf e;obtain⟨i,j,rfl,rfl,e⟩:=e;split at e
   ·rename_i hs;cases e;cases qB rx;cases qB ry;rw[wv,wv,wB]at hs;rcases hs with(z|z)|z
    ·exact .inl (.inl ⟨_,_,rfl,rfl,.inl (G7 z),k φ H _ (.refl _) R rfl⟩)
    ·exact .inl (.inl ⟨_,_,rfl,rfl,.inr (G7 z),k φ H _ (.refl _) R rfl⟩)
    ·exact .inr ⟨_,_,rfl,rfl,⟨D2 z.1,D2 z.2⟩,k φ H _ (.refl _) R rfl⟩
   ·cases e
 |fdiv=>
  replace e:=qf e;obtain⟨i,j,rfl,rfl,e⟩:=e;split at e
  ·rename_i hc;cases e;cases qB rx;cases qB ry;rcases hc.2 with z|z
   ·exact .inl ⟨_,_,rfl,rfl,⟨hc.1,z⟩,k φ H _ (.refl _) R rfl⟩
   ·refine .inr ⟨_,_,rfl,rfl,⟨by omega,D2 z⟩,?_⟩;dsimp only;rw[Int.fdiv_eq_ediv_of_nonneg _ (by omega)];exact k φ H _ (.refl _) R rfl
  ·split at e
   ·rename_i hc;cases e;cases qB rx;cases qB ry;exact .inr ⟨_,_,rfl,rfl,⟨by omega,D2 hc.2⟩,k φ H _ (.refl _) R rfl⟩
   ·cases e
 |mod=>
  replace e:=qf e;obtain⟨i,j,rfl,rfl,e⟩:=e;split at e
  ·rename_i hc;cases e;cases qB rx;cases qB ry;exact .inl ⟨_,_,rfl,rfl,hc,k φ H _ (.refl _) R rfl⟩
  ·split at e
   ·rename_i hc;cases e;cases qB rx;cases qB ry;exact .inr ⟨_,_,rfl,rfl,(by omega),k φ H _ (.refl _) R rfl⟩
   ·cases e
 |pow=>
  replace e:=qf e;obtain⟨i,j,rfl,rfl,e⟩:=e;split at e
  ·rename_i hc;cases e;cases qB rx;cases qB ry;refine⟨_,_,rfl,rfl,⟨hc.1,by omega,by omega⟩,k φ H _ (.refl _) R rfl⟩
  ·cases e
 |band=>
  replace e:=qf e;obtain⟨i,j,rfl,rfl,e⟩:=e;cases e;cases qB rx;cases qB ry;exact⟨_,_,rfl,rfl,k φ H _ (.refl _) R rfl⟩
 |shl=>
  replace e:=qf e;obtain⟨i,j,rfl,rfl,e⟩:=e;split at e
  ·rename_i hc;cases e;cases qB rx;cases qB ry;refine⟨_,_,rfl,rfl,⟨hc.1,by omega,by omega⟩,k φ H _ (.refl _) R rfl⟩
  ·cases e
theorem n8{op:BOp}{ea eb:Expr}{pos:Pos}(ha:SE X G F ea a)(hb:SE X G F eb b):SE X G F (.BinOp ea (opB op) eb pos) (.bin op a b):=by
 refine qi (_L.pe_op (qAJ op) ha hb) λσc H Q q=>?_;obtain⟨φ,h,σ,v,h',R,rs,e,k⟩:=q;unfold ev at e;obtain⟨⟨x,h1⟩,e1,e⟩:=tN e;obtain⟨⟨y,h2⟩,e2,e⟩:=tN e;exact zv R rs e1 e2 λφ2 H2 xc yc x2 R2 r1 r2=>qA6 e R2 r1 r2 λφ' H' w x' R' r'=>k φ' H' w (x2.trans x') R' r'
theorem y6{ea:Expr}{pos:Pos}(ha:SE X G F ea a):SE X G F (.UnaryOp .USub ea pos) (.neg a):=by
 refine qi (_L.pe_un _L.un_neg ha) λσc H Q q=>?_;obtain⟨φ,h,σ,v,h',R,rs,e,k⟩:=q;unfold ev at e;obtain⟨⟨x,h1⟩,e1,e⟩:=tN e;refine⟨φ,h,σ,x,h1,R,rs,e1,λφ1 H1 xc x1 R1 r1=>?_⟩;dsimp only at e;split at e
 ·cases e;cases qB r1;exact⟨_,rfl,k φ1 H1 _ x1 R1 rfl⟩
 ·cases e
end
open PySem.SeqAt
structure Eq3(A:Around)(s:Shared)(u w:Value)(b:Bool):Prop where
 eq:EqAt A s u w b
 rc:RcAt A s u w b
 ne:RcNeAt A s u w (!b)
theorem Jd{A:Around}{s:Shared}{φ:List Addr}:∀{x y xc yc:V}{u w:Value}{b:Bool},eqF x y=some b->rv φ x xc->rv φ y yc->RelV xc u->RelV yc w->Eq3 A s u w b:=by
 intro x y xc yc u w b e rx ry ru rw';cases x with
 |non=>
  cases qp rx;cases ru;cases y with
  |non=>cases qp ry;cases rw';cases e;exact⟨.same _,.none_none,.none_none⟩
  |bl j=>cases zE ry;cases rw';cases e;exact⟨.none_bool _,.none_bool _,.none_bool _⟩
  |int j=>cases qB ry;obtain⟨t,rfl⟩:=rw';cases e;exact⟨.none_int _ _,.none_int _ _,.none_int _ _⟩
  |str j=>cases zG ry;obtain⟨t,rfl⟩:=rw';cases e;exact⟨.none_str _ _,.none_str _ _,.none_str _ _⟩
  |_=>cases e
 |bl i=>
  cases zE rx;cases ru;cases y with
  |non=>cases qp ry;cases rw';cases e;exact⟨.bool_none _,.bool_none _,.bool_none _⟩
  |bl j=>cases zE ry;cases rw';cases e;exact⟨.bool_bool _ _,.bool_bool _ _,.bool_bool _ _⟩
  |int j=>cases qB ry;obtain⟨t,rfl⟩:=rw';cases e;exact⟨.bool_int _ _ _,.bool_int _ _ _,.bool_int _ _ _⟩
  |str j=>cases zG ry;obtain⟨t,rfl⟩:=rw';cases e;exact⟨.bool_str _ _ _,.bool_str _ _ _,.bool_str _ _ _⟩
  |_=>cases e
 |int i=>
  cases qB rx;obtain⟨t,rfl⟩:=ru;cases y with
  |non=>cases qp ry;cases rw';cases e;exact⟨.int_none _ _,.int_none _ _,.int_none _ _⟩
  |bl j=>cases zE ry;cases rw';cases e;exact⟨.int_bool _ _ _,.int_bool _ _ _,.int_bool _ _ _⟩
  |int j=>cases qB ry;obtain⟨t,rfl⟩:=rw';cases e;exact⟨.int_int _ _ _ _,.int_int _ _ _ _,.int_int _ _ _ _⟩
  |str j=>cases zG ry;obtain⟨t,rfl⟩:=rw';cases e;exact⟨.int_str _ _ _ _,.int_str _ _ _ _,.int_str _ _ _ _⟩
  |_=>cases e
 |str i=>
  cases zG rx;obtain⟨t,rfl⟩:=ru;cases y with
  |non=>cases qp ry;cases rw';cases e;exact⟨.str_none _ _,.str_none _ _,.str_none _ _⟩
  |bl j=>cases zE ry;cases rw';cases e;exact⟨.str_bool _ _ _,.str_bool _ _ _,.str_bool _ _ _⟩
  |int j=>cases qB ry;obtain⟨t,rfl⟩:=rw';cases e;exact⟨.str_int _ _ _ _,.str_int _ _ _ _,.str_int _ _ _ _⟩
  |str j=>cases zG ry;obtain⟨t,rfl⟩:=rw';cases e;exact⟨.str_str _ _ _ _,.str_str _ _ _ _,.str_str _ _ _ _⟩
  |_=>cases e
 |_=>cases y<;>cases e
theorem C3{φ:List Addr}{x y w:V}{b:Bool}(e:eqF x y=some b)(rx:rv φ x w)(ry:rv φ y w):b=true:=by
 cases x with
 |non=>cases qp rx;cases y<;>first|exact False.elim ry|(cases e;rfl)|cases e
 |bl i=>cases zE rx;cases y<;>first|exact False.elim ry|(rename_i j;cases (show j=i from ry);cases e;simp)|cases e
 |int i=>cases qB rx;cases y<;>first|exact False.elim ry|(rename_i j;cases (show j=i from ry);cases e;simp)|cases e
 |str i=>cases zG rx;cases y<;>first|exact False.elim ry|(rename_i j;cases (show j=i from ry);cases e;simp)|cases e
 |_=>cases y<;>cases e
theorem Qe{f:V->V->Option Bool}:∀{xs ys:List V}{bs:List Bool},Qu f xs ys=some bs->bs.length=xs.length/\ys.length=xs.length/\∀(j:Nat) x y,xs[j]?=some x->ys[j]?=some y->∃b,bs[j]?=some b/\f x y=some b
 | [],[],bs,e=>by
  cases e;exact⟨rfl,rfl,λj x y h=>by simp at h⟩
 | [],_::_,_,e=>by cases e
 |_::_,[],_,e=>by cases e
 |x::xs,y::ys,bs,e=>by
  unfold Qu at e;split at e
  ·rename_i b bs' e1 e2;cases e;obtain⟨l1,l2,k⟩:=Qe e2;refine⟨by simp[l1],by simp[l2],λj u v h1 h2=>?_⟩;cases j with
   |zero=>simp at h1 h2;subst h1 h2;exact⟨b,rfl,e1⟩
   |succ j=>obtain⟨b',h3,h4⟩:=k j u v (by simpa using h1) (by simpa using h2);exact⟨b',by simpa using h3,h4⟩
  ·cases e
theorem JW(bs:List Bool):(List.range bs.length).all (λj=>bs.getD j true)=bs.all id:=by
 rw[wx];simp only[wb,vN,id];constructor
 ·intro h b hb;obtain⟨j,hj,rfl⟩:=vF.mp hb;have:=h j hj;rw[wg,wE hj]at this;exact this
 ·intro h j hj;rw[wg,wE hj];exact h _ (wn hj)
section
variable{X:Cx}{G φ:List Addr}{h:AH}{H:Hp}{pins:List (Addr×Obj)}{σ:_L.St}{s:Shared}
theorem F3(I:Inv X pins σ H s)(R:Rl X.K G φ h H):∀(n:Nat){x y w:V}{b:Bool},eqD h n x y=some b->rv φ x w->rv φ y w->b=true
 | 0,x,y,w,b,e,rx,ry=>C3 e rx ry
 |n+1,x,y,w,b,e,rx,ry=>by
  have all:∀{xs ys zs:List V}{bs:List Bool},rvs φ xs zs->rvs φ ys zs->Qu (eqD h n) xs ys=some bs->bs.all id=true:=λ{xs ys zs bs} r1 r2 e=>by
   obtain⟨l1,l2,k⟩:=Qe e;rw[wb];intro b hb;obtain⟨j,hj,rfl⟩:=vF.mp hb;have hx:j<xs.length:=by omega
   have hy:j<ys.length:=by omega
   obtain⟨b',hb',e'⟩:=k j _ _ (wE hx) (wE hy);rw[wE hj]at hb';cases hb';obtain⟨z,hz,q1⟩:=qJ r1 (wE hx);obtain⟨z',hz',q2⟩:=qJ r2 (wE hy);rw[hz]at hz';cases hz';exact F3 I R n e' q1 q2
  cases x with
  |ref a=>
   obtain⟨p,rfl,hp⟩:=qI rx;cases y with
   |ref c=>
    have hc:φ[c]?=some p:=ry;simp only[eqD]at e;split at e
    ·rename_i f1 xs f2 ys e1 e2;split at e
     ·cases e;rfl
     ·obtain⟨p1,z1,q1,s1,r1⟩:=R.lst (i:=a) (xs:=xs) (by unfold qH;rw[e1]);obtain⟨p2,z2,q2,s2,r2⟩:=R.lst (i:=c) (xs:=ys) (by unfold qH;rw[e2]);rw[hp]at q1;cases q1;rw[hc]at q2;cases q2;have:=I.list_inj s1 s2;subst this;split at e
      ·obtain⟨bs,e3,rfl⟩:=wA.mp e;exact all r1 r2 e3
      ·rename_i hne;exact absurd ((Paired.length r1).trans (Paired.length r2).symm) hne
    ·rename_i xs ys e1 e2;split at e
     ·cases e;rfl
     ·obtain⟨p1,z1,q1,s1,r1⟩:=R.tup (i:=a) (xs:=xs) (by unfold qU;rw[e1]);obtain⟨p2,z2,q2,s2,r2⟩:=R.tup (i:=c) (xs:=ys) (by unfold qU;rw[e2]);rw[hp]at q1;cases q1;rw[hc]at q2;cases q2;have:=I.tuple_inj s1 s2;subst this;split at e
      ·obtain⟨bs,e3,rfl⟩:=wA.mp e;exact all r1 r2 e3
      ·rename_i hne;exact absurd ((Paired.length r1).trans (Paired.length r2).symm) hne
    ·rename_i f1 xs ys e1 e2;obtain⟨p1,z1,q1,s1,r1⟩:=R.lst (i:=a) (xs:=xs) (by unfold qH;rw[e1]);obtain⟨p2,z2,q2,s2,r2⟩:=R.tup (i:=c) (xs:=ys) (by unfold qU;rw[e2]);rw[hp]at q1;cases q1;rw[hc]at q2;cases q2;obtain⟨i1,_,t1,_⟩:=I.list s1;obtain⟨i2,_,t2,_⟩:=I.tuple s2;exact absurd rfl (ne_of_list_tuple t1.isList t2)
    ·rename_i xs f1 ys e1 e2;obtain⟨p1,z1,q1,s1,r1⟩:=R.tup (i:=a) (xs:=xs) (by unfold qU;rw[e1]);obtain⟨p2,z2,q2,s2,r2⟩:=R.lst (i:=c) (xs:=ys) (by unfold qH;rw[e2]);rw[hp]at q1;cases q1;rw[hc]at q2;cases q2;obtain⟨i1,_,t1,_⟩:=I.tuple s1;obtain⟨i2,_,t2,_⟩:=I.list s2;exact absurd rfl (ne_of_list_tuple t2.isList t1)
    ·cases e
   |_=>exact False.elim ry
  |_=>
   cases y with
   |ref c=>
    obtain⟨p,rfl,hp⟩:=qI ry;exact False.elim rx
   |_=>exact C3 e rx ry
theorem X4(I:Inv X pins σ H s)(R:Rl X.K G φ h H):∀(n:Nat){A:Around}{x y xc yc:V}{u w:Value}{b:Bool},A.units+n<cLine->eqD h n x y=some b->rv φ x xc->rv φ y yc->RelV xc u->RelV yc w->Eq3 A s u w b
 | 0,A,x,y,xc,yc,u,w,b,hu,e,rx,ry,ru,rw'=>Jd e rx ry ru rw'
 |n+1,A,x,y,xc,yc,u,w,b,hu,e,rx,ry,ru,rw'=>by
  have hu0:A.units<cLine:=by omega
  have hu1:A.in1.units+n<cLine:=by show A.units+1+n<cLine;omega
  have item:∀{xs ys zs ts:List V}{us ws:List Value}{bs:List Bool},rvs φ xs zs->rvs φ ys ts->Vals zs us->Vals ts ws->Qu (eqD h n) xs ys=some bs->us.length=bs.length/\ws.length=bs.length/\
    ∀(j:Nat) (h1:j<us.toArray.size) (h2:j<ws.toArray.size),EqAt A.in1 s us.toArray[j] ws.toArray[j] (bs.getD j true):=λ{xs ys zs ts us ws bs} r1 r2 v1 v2 e=>by
   obtain⟨l1,l2,k⟩:=Qe e;have n1:=Paired.length r1;have n2:=Paired.length r2;have n3:=v1.length;have n4:=v2.length;refine⟨by omega,by omega,λj h1 h2=>?_⟩;have g1:j<us.length:=by simpa using h1
   have g2:j<ws.length:=by simpa using h2
   have hx:j<xs.length:=by omega
   have hy:j<ys.length:=by omega
   obtain⟨b',hb',e'⟩:=k j _ _ (wE hx) (wE hy);obtain⟨z,hz,q1⟩:=qJ r1 (wE hx);obtain⟨t,ht,q2⟩:=qJ r2 (wE hy);obtain⟨u',hu',q3⟩:=v1.get hz;obtain⟨w',hw',q4⟩:=v2.get ht;rw[wE g1]at hu';rw[wE g2]at hw';cases hu';cases hw';rw[wg,hb'];have:=(X4 I R n (A:=A.in1) hu1 e' q1 q2 q3 q4).eq;simpa using this
  have refs:∀{a:Nat}{p:Addr}{v:V}{b:Bool},φ[a]?=some p->(if (items h a).isSome&&flat v then some false else none)=some b->b=false/\∃its,s.heap.IsList p its\/s.heap.IsTuple p its:=λ{a p v b} hp e=>by
   cases ea:h[a]? with
   |none=>rw[show items h a=none from(by unfold items;rw[ea])]at e;cases e
   |some o=>
    have hb:b=false:=by
     split at e
     ·cases e;rfl
     ·cases e
    refine⟨hb,?_⟩;cases o with
    |lst f xs=>
     obtain⟨p1,z1,q1,s1,r1⟩:=R.lst (i:=a) (xs:=xs) (by unfold qH;rw[ea]);rw[hp]at q1;cases q1;obtain⟨i1,_,t1,_⟩:=I.list s1;exact⟨_,.inl t1.isList⟩
    |tup xs=>
     obtain⟨p1,z1,q1,s1,r1⟩:=R.tup (i:=a) (xs:=xs) (by unfold qU;rw[ea]);rw[hp]at q1;cases q1;obtain⟨i1,_,t1,_⟩:=I.tuple s1;exact⟨_,.inr t1⟩
    |ob ks=>rw[show items h a=none from(by unfold items;rw[ea])]at e;cases e
  cases x with
  |ref a=>
   obtain⟨p,rfl,hp⟩:=qI rx;cases ru;cases y with
   |ref c=>
    obtain⟨q,rfl,hq⟩:=qI ry;cases rw';have same:p=q->b=true:=λz=>by
     subst z;exact F3 I R (n+1) e rx (show rv φ (.ref c) (.ref p) from hq)
    simp only[eqD]at e;split at e
    ·rename_i f1 xs f2 ys e1 e2;obtain⟨p1,z1,q1,s1,r1⟩:=R.lst (i:=a) (xs:=xs) (by unfold qH;rw[e1]);obtain⟨p2,z2,q2,s2,r2⟩:=R.lst (i:=c) (xs:=ys) (by unfold qH;rw[e2]);rw[hp]at q1;cases q1;rw[hq]at q2;cases q2;obtain⟨i1,v1,t1,_⟩:=I.list s1;obtain⟨i2,v2,t2,_⟩:=I.list s2;split at e
     ·rename_i hac;subst hac;rw[hp]at hq;cases hq;cases e;have rc:=RcAt.lists (A:=A) (e:=λ_=>true) t1.isList t1.isList rfl hu0 λj _ _=>EqAt.same _;have ne:=RcNeAt.lists (A:=A) (e:=λ_=>true) t1.isList t1.isList rfl hu0 λj _ _=>EqAt.same _;have al:∀l:List Nat,(l.all λ_=>true)=true:=λl=>by simp
      rw[al]at rc ne;exact⟨.same _,rc,ne⟩
     ·split at e
      ·obtain⟨bs,e3,rfl⟩:=wA.mp e;obtain⟨m1,m2,he⟩:=item r1 r2 v1 v2 e3;have hsz:i1.toArray.size=i2.toArray.size:=by simp;omega
       have rc:=RcAt.lists (A:=A) (e:=λj=>bs.getD j true) t1.isList t2.isList hsz hu0 he;have ne:=RcNeAt.lists (A:=A) (e:=λj=>bs.getD j true) t1.isList t2.isList hsz hu0 he;have sz:i1.toArray.size=bs.length:=by simpa using m1
       rw[sz,JW]at rc ne;refine⟨?_,rc,ne⟩;by_cases hpq:p=q
       ·rw[same hpq];subst hpq;exact .same _
       ·exact .of_refs hpq rc
      ·rename_i hl;cases e;have n1:=Paired.length r1;have n2:=Paired.length r2;have n3:=v1.length;have n4:=v2.length;have hsz:(i1.toArray.size != i2.toArray.size)=true:=by simp;omega
       have rc:=RcAt.lists_lengths (A:=A) t1.isList t2.isList hsz hu0;have ne:=RcNeAt.lists_lengths (A:=A) t1.isList t2.isList hsz hu0;refine⟨?_,rc,ne⟩;by_cases hpq:p=q
       ·exact absurd (same hpq) (by decide)
       ·exact .of_refs hpq rc
    ·rename_i xs ys e1 e2;obtain⟨p1,z1,q1,s1,r1⟩:=R.tup (i:=a) (xs:=xs) (by unfold qU;rw[e1]);obtain⟨p2,z2,q2,s2,r2⟩:=R.tup (i:=c) (xs:=ys) (by unfold qU;rw[e2]);rw[hp]at q1;cases q1;rw[hq]at q2;cases q2;obtain⟨i1,v1,t1,_⟩:=I.tuple s1;obtain⟨i2,v2,t2,_⟩:=I.tuple s2;have t1':s.heap.IsTuple p i1.toArray:=t1;have t2':s.heap.IsTuple q i2.toArray:=t2;split at e
     ·rename_i hac;subst hac;rw[hp]at hq;cases hq;cases e;have rc:=RcAt.tuples (A:=A) (e:=λ_=>true) t1' t1' hu0 λj _ _=>EqAt.same _;have ne:=RcNeAt.tuples (A:=A) (e:=λ_=>true) t1' t1' hu0 λj _ _=>EqAt.same _;have al:∀l:List Nat,(l.all λ_=>true)=true:=λl=>by simp
      rw[al]at rc ne;simp only[vp,Bool.and_self]at rc ne;exact⟨.same _,rc,ne⟩
     ·split at e
      ·obtain⟨bs,e3,rfl⟩:=wA.mp e;obtain⟨m1,m2,he⟩:=item r1 r2 v1 v2 e3;have hsz:i1.toArray.size=i2.toArray.size:=by simp;omega
       have rc:=RcAt.tuples (A:=A) (e:=λj=>bs.getD j true) t1' t2' hu0 he;have ne:=RcNeAt.tuples (A:=A) (e:=λj=>bs.getD j true) t1' t2' hu0 he;have sz:i1.toArray.size=bs.length:=by simpa using m1
       have sz2:i2.toArray.size=bs.length:=by simpa using m2
       rw[sz,sz2,Nat.min_self,JW,vp,Bool.and_true]at rc ne;refine⟨?_,rc,ne⟩;by_cases hpq:p=q
       ·rw[same hpq];subst hpq;exact .same _
       ·exact .of_refs hpq rc
      ·rename_i hl;have n1:=Paired.length r1;have n2:=Paired.length r2;have n3:=v1.length;have n4:=v2.length;obtain⟨bs,e3,hb⟩:=wA.mp e;subst hb;have hsz:(i1.toArray.size==i2.toArray.size)=false:=by simp;omega
       obtain⟨m1,m2,he⟩:=item (zf ys.length r1) (zf xs.length r2) (v1.take ys.length) (v2.take xs.length) e3;have he':∀(j:Nat) (h1:j<i1.toArray.size) (h2:j<i2.toArray.size),EqAt A.in1 s i1.toArray[j] i2.toArray[j] (bs.getD j true):=λj h1 h2=>by
        have g1:j<i1.length:=by simpa using h1
        have g2:j<i2.length:=by simpa using h2
        have:=he j (by simp;omega) (by simp;omega);simpa using this
       have rc:=RcAt.tuples (A:=A) (e:=λj=>bs.getD j true) t1' t2' hu0 he';have ne:=RcNeAt.tuples (A:=A) (e:=λj=>bs.getD j true) t1' t2' hu0 he';rw[hsz,Bool.and_false]at rc ne;refine⟨?_,rc,ne⟩;by_cases hpq:p=q
       ·exact absurd (same hpq) (by decide)
       ·exact .of_refs hpq rc
    ·rename_i f1 xs ys e1 e2;cases e;obtain⟨p1,z1,q1,s1,r1⟩:=R.lst (i:=a) (xs:=xs) (by unfold qH;rw[e1]);obtain⟨p2,z2,q2,s2,r2⟩:=R.tup (i:=c) (xs:=ys) (by unfold qU;rw[e2]);rw[hp]at q1;cases q1;rw[hq]at q2;cases q2;obtain⟨i1,_,t1,_⟩:=I.list s1;obtain⟨i2,_,t2,_⟩:=I.tuple s2;exact⟨.list_tuple t1.isList t2 hu0,.list_tuple t1.isList t2 hu0,.list_tuple t1.isList t2 hu0⟩
    ·rename_i xs f1 ys e1 e2;cases e;obtain⟨p1,z1,q1,s1,r1⟩:=R.tup (i:=a) (xs:=xs) (by unfold qU;rw[e1]);obtain⟨p2,z2,q2,s2,r2⟩:=R.lst (i:=c) (xs:=ys) (by unfold qH;rw[e2]);rw[hp]at q1;cases q1;rw[hq]at q2;cases q2;obtain⟨i1,_,t1,_⟩:=I.tuple s1;obtain⟨i2,_,t2,_⟩:=I.list s2;exact⟨.tuple_list t1 t2.isList hu0,.tuple_list t1 t2.isList hu0,.tuple_list t1 t2.isList hu0⟩
    ·cases e
   |non=>
    cases qp ry;cases rw';rcases refs hp (show (if (items h a).isSome&&flat V.non then some false else none)=some b from e) with⟨rfl,its,t|t⟩
    ·exact⟨.list_none t hu0,.list_none t hu0,.list_none t hu0⟩
    ·exact⟨.tuple_none t hu0,.tuple_none t hu0,.tuple_none t hu0⟩
   |bl j=>
    cases zE ry;cases rw';rcases refs hp (show (if (items h a).isSome&&flat (V.bl j) then some false else none)=some b from e) with⟨rfl,its,t|t⟩
    ·exact⟨.list_bool _ t hu0,.list_bool _ t hu0,.list_bool _ t hu0⟩
    ·exact⟨.tuple_bool _ t hu0,.tuple_bool _ t hu0,.tuple_bool _ t hu0⟩
   |int j=>
    cases qB ry;obtain⟨t',rfl⟩:=rw';rcases refs hp (show (if (items h a).isSome&&flat (V.int j) then some false else none)=some b from e) with⟨rfl,its,t|t⟩
    ·exact⟨.list_int _ _ t hu0,.list_int _ _ t hu0,.list_int _ _ t hu0⟩
    ·exact⟨.tuple_int _ _ t hu0,.tuple_int _ _ t hu0,.tuple_int _ _ t hu0⟩
   |str j=>
    cases zG ry;obtain⟨t',rfl⟩:=rw';rcases refs hp (show (if (items h a).isSome&&flat (V.str j) then some false else none)=some b from e) with⟨rfl,its,t|t⟩
    ·exact⟨.list_str _ _ t hu0,.list_str _ _ t hu0,.list_str _ _ t hu0⟩
    ·exact⟨.tuple_str _ _ t hu0,.tuple_str _ _ t hu0,.tuple_str _ _ t hu0⟩
   |_=>exact False.elim ry
  |non=>
   cases y with
   |ref c=>
    obtain⟨p,rfl,hp⟩:=qI ry;cases rw';cases qp rx;cases ru;rcases refs hp (show (if (items h c).isSome&&flat V.non then some false else none)=some b from(Bool.and_comm _ _) ▸ e) with⟨rfl,its,t|t⟩
    ·exact⟨.none_list t hu0,.none_list t hu0,.none_list t hu0⟩
    ·exact⟨.none_tuple t hu0,.none_tuple t hu0,.none_tuple t hu0⟩
   |_=>exact Jd e rx ry ru rw'
  |bl i=>
   cases y with
   |ref c=>
    obtain⟨p,rfl,hp⟩:=qI ry;cases rw';cases zE rx;cases ru;rcases refs hp (show (if (items h c).isSome&&flat (V.bl i) then some false else none)=some b from(Bool.and_comm _ _) ▸ e) with⟨rfl,its,t|t⟩
    ·exact⟨.bool_list _ t hu0,.bool_list _ t hu0,.bool_list _ t hu0⟩
    ·exact⟨.bool_tuple _ t hu0,.bool_tuple _ t hu0,.bool_tuple _ t hu0⟩
   |_=>exact Jd e rx ry ru rw'
  |int i=>
   cases y with
   |ref c=>
    obtain⟨p,rfl,hp⟩:=qI ry;cases rw';cases qB rx;obtain⟨t',rfl⟩:=ru;rcases refs hp (show (if (items h c).isSome&&flat (V.int i) then some false else none)=some b from(Bool.and_comm _ _) ▸ e) with⟨rfl,its,t|t⟩
    ·exact⟨.int_list _ _ t hu0,.int_list _ _ t hu0,.int_list _ _ t hu0⟩
    ·exact⟨.int_tuple _ _ t hu0,.int_tuple _ _ t hu0,.int_tuple _ _ t hu0⟩
   |_=>exact Jd e rx ry ru rw'
  |str i=>
   cases y with
   |ref c=>
    obtain⟨p,rfl,hp⟩:=qI ry;cases rw';cases zG rx;obtain⟨t',rfl⟩:=ru;rcases refs hp (show (if (items h c).isSome&&flat (V.str i) then some false else none)=some b from(Bool.and_comm _ _) ▸ e) with⟨rfl,its,t|t⟩
    ·exact⟨.str_list _ _ t hu0,.str_list _ _ t hu0,.str_list _ _ t hu0⟩
    ·exact⟨.str_tuple _ _ t hu0,.str_tuple _ _ t hu0,.str_tuple _ _ t hu0⟩
   |_=>exact Jd e rx ry ru rw'
  |_=>cases xc<;>exact False.elim rx
end
theorem B4{φ:List Addr}:∀{x w:V},flat x=true->rv φ x w->w=x
 | .non,_,_,h=>qp h
 | .bl _,_,_,h=>zE h
 | .int _,_,_,h=>qB h
 | .str _,_,_,h=>zG h
 | .ref _,_,f,_=>by cases f
 | .byt _,_,f,_=>by cases f
 | .flt _,_,f,_=>by cases f
 | .ty _,_,f,_=>by cases f
theorem zI{φ:List Addr}:∀{xs ws:List V},xs.all flat=true->rvs φ xs ws->ws=xs
 |_,_,_,.nil=>rfl
 |x::xs,w::ws,f,.cons r t=>by
  simp only[List.all_cons,wB]at f;rw[B4 f.1 r,zI f.2 t]
theorem E6:∀x:V,_L.flatV x=flat x:=by intro x;cases x<;>rfl
theorem W7(xs:List V):xs.all _L.flatV=xs.all flat:=by
 induction xs with
 |nil=>rfl
 |cons x xs ih=>rw[List.all_cons,List.all_cons,ih,E6]
section
variable{X:Cx}{G:List Addr}{F:Nat->List V->AH->RV}
noncomputable def opC:COp->CmpOp
 | .lt=>.Lt | .le=>.LtE | .gt=>.Gt | .ge=>.GtE | .eq=>.Eq | .ne=>.NotEq | .inn=>.In | .notin=>.NotIn | .is=>.Is | .isnot=>.IsNot
variable (X G) in
noncomputable def qAB(op:COp):R2:=λx y H Q=>∃φ h xa ya b,Rl X.K G φ h H/\rv φ xa x/\rv φ ya y/\N5 op xa ya h=some b/\Q (.bl b) H
theorem C4{φ:List Addr}{x y:V}(r:rv φ x y):decide (x=V.non)=decide (y=V.non):=by
 by_cases hx:x=V.non
 ·subst hx;cases qp r;rfl
 ·have hy:y≠V.non:=λhy=>by subst hy;cases x<;>first|exact hx rfl|exact False.elim r
  rw[vh hx,vh hy]
theorem Jx(kvs:List (Int×V))(i:Int):((kvs.map kk).any λkv=>decide (kv.1=Sum.inl i))=qBS kvs i:=by
 unfold qBS;rw[List.any_map];congr 1
 funext p
 show decide ((Sum.inl p.1:_L.Key)=Sum.inl i)=_;rw[wx];simp
theorem qAt(kvs:List (Int×V))(i:Int)(v:V):_L.putK (kvs.map kk) (Sum.inl i:_L.Key) v=(qDb kvs i v).map kk:=by
 unfold _L.putK qDb;rw[Jx];split
 ·rw[vM,vM];congr 1
  funext p
  show (if (Sum.inl p.1:_L.Key)=Sum.inl i then ((Sum.inl p.1:_L.Key),v) else kk p)=kk (if p.1=i then (p.1,v) else p);by_cases h:p.1=i
  ·rw[if_pos (by rw[h]),if_pos h];rfl
  ·rw[if_neg (λz=>h (Sum.inl.inj z)),if_neg h]
 ·rw[List.map_append];rfl
theorem zF(hu:X.A.units+8<cLine):∀op,OpR X (compareOp (opC op)) (qAB X G op):=by
 intro op pins s σ H x y v u Q I rx ry ⟨φ,h,xa,ya,b,R,r1,r2,e,q⟩;have hin:∀(neg:Bool){p:Nat}{ya':V}(e:(match items h p with|some xs=>if flat xa&&xs.all flat then some (if neg then !(xs.any λy=>_L.eqV y xa) else xs.any λy=>_L.eqV y xa) else none|none=>none)=some b),rv φ (.ref p) y->_L.rIn X.K neg x y H Q:=by
  intro neg p ya' e r2;split at e
  ·rename_i xs ex;split at e
   ·rename_i hf;simp only[wB]at hf;obtain⟨a,ys,ha,hs,rs⟩:=R.its ex;obtain⟨a',rfl,ha'⟩:=qI r2;rw[ha]at ha';cases ha';have e1:=B4 hf.1 r1;have e2:=zI hf.2 rs;subst e1 e2;refine⟨a,ys,rfl,hs,by rw[E6];exact hf.1,by rw[W7];exact hf.2,?_⟩;cases e;exact q
   ·cases e
  ·cases e
 cases op with
 |lt=>
  replace e:=QP e;obtain⟨i,j,rfl,rfl,rfl⟩:=e;cases qB r1;cases qB r2;exact _L.op_lt pins s σ H _ _ v u Q I rx ry ⟨_,_,rfl,rfl,q⟩
 |le=>
  replace e:=QP e;obtain⟨i,j,rfl,rfl,rfl⟩:=e;cases qB r1;cases qB r2;exact _L.op_le pins s σ H _ _ v u Q I rx ry ⟨_,_,rfl,rfl,q⟩
 |gt=>
  replace e:=QP e;obtain⟨i,j,rfl,rfl,rfl⟩:=e;cases qB r1;cases qB r2;exact _L.op_gt pins s σ H _ _ v u Q I rx ry ⟨_,_,rfl,rfl,q⟩
 |ge=>
  replace e:=QP e;obtain⟨i,j,rfl,rfl,rfl⟩:=e;cases qB r1;cases qB r2;exact _L.op_ge pins s σ H _ _ v u Q I rx ry ⟨_,_,rfl,rfl,q⟩
 |eq=>exact(X4 I R 4 (by omega) (show eqD h 4 xa ya=some b from e) r1 r2 rx ry).rc _ _ _ _ ⟨.bl b,H,I,rfl,q⟩
 |ne=>
  have e':(eqD h 4 xa ya).map (!·)=some b:=e;obtain⟨c,e1,rfl⟩:=wA.mp e';exact(X4 I R 4 (by omega) e1 r1 r2 rx ry).ne _ _ _ _ ⟨.bl (!c),H,I,rfl,q⟩
 |inn=>
  replace e:=E4 e;obtain⟨p,rfl,e⟩:=e;cases ei:items h p with
  |some xs=>exact _L.op_in_seq pins s σ H x y v u Q I rx ry (hin false (ya':=.non) (by rw[ei]at e ⊢;exact e) r2)
  |none=>
   rw[ei]at e;dsimp only at e;split at e
   ·rename_i kvs ed;split at e
    ·rename_i i;cases e;obtain⟨a,ea,_,hH⟩:=R.dct ed;obtain⟨a',rfl,ha'⟩:=qI r2;rw[ea]at ha';cases ha';cases qB r1;cases ry;refine _L.d_in (by omega) I (_L.DGet.k (k:=.inl i) hH) rx λs' I'=>⟨.bl (_L.valV (kvs.map kk) (Sum.inl i)).isSome,H,I',rfl,?_⟩
     rw[<-_L.valV_any,Jx];exact q
    ·cases e
   ·cases e
 |notin=>
  replace e:=E4 e;obtain⟨p,rfl,e⟩:=e;cases ei:items h p with
  |some xs=>exact _L.op_notIn_seq pins s σ H x y v u Q I rx ry (hin true (ya':=.non) (by rw[ei]at e ⊢;exact e) r2)
  |none=>
   rw[ei]at e;dsimp only at e;split at e
   ·rename_i kvs ed;split at e
    ·rename_i i;cases e;obtain⟨a,ea,_,hH⟩:=R.dct ed;obtain⟨a',rfl,ha'⟩:=qI r2;rw[ea]at ha';cases ha';cases qB r1;cases ry;refine _L.d_notIn (by omega) I (_L.DGet.k (k:=.inl i) hH) rx λs' I'=>⟨.bl (!(_L.valV (kvs.map kk) (Sum.inl i)).isSome),H,I',rfl,?_⟩
     rw[<-_L.valV_any,Jx];exact q
    ·cases e
   ·cases e
 |is=>
  rcases W2 (show isC xa ya id=some b from e) with⟨rfl,rfl⟩|⟨c,d,rfl,rfl,rfl⟩
  ·cases qp r2;rw[C4 r1]at q;exact _L.op_isN pins s σ H x _ v u Q I rx ry ⟨rfl,q⟩
  ·cases zE r1;cases zE r2;cases (show v=Value.bool c from rx);cases (show u=Value.bool d from ry);exact PySem.wpAny_is_plain rfl ⟨.bl (c==d),H,I,(by cases c<;>cases d<;>rfl),q⟩
 |isnot=>
  rcases W2 (show isC xa ya (!·)=some b from e) with⟨rfl,rfl⟩|⟨c,d,rfl,rfl,rfl⟩
  ·cases qp r2;rw[C4 r1]at q;exact _L.op_notN pins s σ H x _ v u Q I rx ry ⟨rfl,q⟩
  ·cases zE r1;cases zE r2;cases (show v=Value.bool c from rx);cases (show u=Value.bool d from ry);exact PySem.wpAny_isNot_plain rfl ⟨.bl (!(c==d)),H,I,(by cases c<;>cases d<;>rfl),q⟩
theorem Zr:∀{bs:List Bool}{us:List Value},Vals (bs.map V.bl) us->LSm.BoolsAre us bs
 | [],_,.nil=>.nil
 |b::bs,u::us,.cons r t=>by
  cases (show u=Value.bool b from r);exact .cons b (Zr t)
theorem K6{A:Around}{E:Value->Shared->Prop}{prog:Program}{w:World}{s:Shared}{l:Addr}{vs:List Value}{bs:List Bool}{Q:Value->Shared->Prop}(hh:A.handled=none)(hl:s.heap.IsList l vs.toArray)(hb:LSm.BoolsAre vs bs)
  (h:∀h' tk,(∀b x,s.heap.get? b=some x->h'.get? b=some x)->Q (.bool (bs.all id)) { s with heap:=h',toks:=tk }):wpAny (model prog w) A (call (.builtin "all") [.ref l]) Q E s:=by
 have hlt:l<s.heap.objs.size:=by obtain⟨_,e,_⟩:=hl;exact Heap.lt_size e
 refine call_all_walk (wpAny_pyIter_list hl ?_);refine⟨s.heap.objs.size,[s.heap.objs.size,l],[s.heap.objs.size],vs.toArray.size,_,_,λi=>(bs[i]?).getD true,rfl,Walks.list (A:=A.in1) hh _ l (wR hlt) vs.toArray,
  ⟨⟨_,Heap.get?_push_size _ rfl,rfl,rfl⟩,hl.push _⟩,λi v s' Q' E' hP hQ=>?_,λh' tk hk=>?_⟩
 ·obtain⟨b,e,rfl⟩:=hb.get i v (by simpa using hP);simp only[e,Option.getD_some]at hQ;exact vo hQ
 ·have e:((List.range vs.toArray.size).all λi=>(bs[i]?).getD true)=bs.all id:=by
   rw[wL,hb.length];exact LSm.range_all bs
  rw[e];exact h h' tk (LSm.kept_iter hk)
theorem A9{A:Around}{E:Value->Shared->Prop}{prog:Program}{w:World}{s:Shared}{l:Addr}{vs:List Value}{ns:List Int}{M:Int}{Q:Value->Shared->Prop}(hh:A.handled=none)(hl:s.heap.IsList l vs.toArray)(hi:IntsAre vs ns)(hM:qAL ns=some M)
  (h:∀h' tk (t:Tok),(∀b x,s.heap.get? b=some x->h'.get? b=some x)->Q (.int M t) { s with heap:=h',toks:=tk }):wpAny (model prog w) A (call (.builtin "max") [.ref l]) Q E s:=by
 obtain⟨m1,m2⟩:=W4 hM;obtain⟨xs,e⟩:=hi.allInts.items;have hns:ns=xs.toList.map (·.1):=by rw[<-hi.numsOf,<-nums_intItems,<-e]
 have hsz:0<xs.size:=by
  have h3:=List.length_pos_of_mem m1;rw[hns,wG,wZ]at h3;exact h3
 rw[e]at hl;refine max_intList hh hl hsz λv h' tk hv hk=>?_;obtain⟨t,rfl⟩:=intItems_at hv;obtain⟨h1,h2⟩:=argBest_gt (numAt xs) (xs.size-1);have e1:numAt xs (argBest (λi j=>decide (numAt xs i>numAt xs j)) (xs.size-1))=M:=by
  refine Int.le_antisymm (m2 _ ?_) ?_
  ·rw[hns,numAt_eq];exact getD_mem (by rw[wG,wZ];omega)
  ·have ha:=m1;rw[hns]at ha;obtain⟨j,hj,e2⟩:=mem_getD ha;rw[wG,wZ]at hj;rw[<-e2,<-numAt_eq];exact h2 j (by omega)
 rw[e1];exact h h' tk t hk
theorem N4{A:Around}{E:Value->Shared->Prop}{prog:Program}{w:World}{s:Shared}{l:Addr}{vs:List Value}{bs:List Bool}{Q:Value->Shared->Prop}(hh:A.handled=none)(hl:s.heap.IsList l vs.toArray)(hb:LSm.BoolsAre vs bs)
  (h:∀h' tk,(∀b x,s.heap.get? b=some x->h'.get? b=some x)->Q (.bool (bs.any id)) { s with heap:=h',toks:=tk }):wpAny (model prog w) A (call (.builtin "any") [.ref l]) Q E s:=by
 have hlt:l<s.heap.objs.size:=by obtain⟨_,e,_⟩:=hl;exact Heap.lt_size e
 refine call_any_walk (wpAny_pyIter_list hl ?_);refine⟨s.heap.objs.size,[s.heap.objs.size,l],[s.heap.objs.size],vs.toArray.size,_,_,λi=>(bs[i]?).getD false,rfl,Walks.list (A:=A.in1) hh _ l (wR hlt) vs.toArray,
  ⟨⟨_,Heap.get?_push_size _ rfl,rfl,rfl⟩,hl.push _⟩,λi v s' Q' E' hP hQ=>?_,λh' tk hk=>?_⟩
 ·obtain⟨b,e,rfl⟩:=hb.get i v (by simpa using hP);simp only[e,Option.getD_some]at hQ;exact vo hQ
 ·have e:((List.range vs.toArray.size).any λi=>(bs[i]?).getD false)=bs.any id:=by
   rw[wL,hb.length];exact LSm.range_any bs
  rw[e];exact h h' tk (LSm.kept_iter hk)
theorem Jp:∀{xs:List V}{is:List Int}{us:List Value},zr xs=some is->Vals xs us->us.length=is.length/\∀i v,us[i]?=some v->NumOf (is.getD i 0) v
 | [],is,_,e,.nil=>by cases e;exact⟨rfl,λi v e=>by simp at e⟩
 |x::r,is,u::us,e,.cons a t=>by
  unfold zr at e;split at e
  ·rename_i e';cases e'
  ·rename_i e';cases e';obtain⟨js,e1,rfl⟩:=wA.mp e;obtain⟨l,g⟩:=Jp e1 t;refine⟨by simp[l],λi v q=>?_⟩;cases i with
   |zero=>
    cases q;obtain⟨w,rfl⟩:=a;exact .inl ⟨w,rfl⟩
   |succ i=>exact g i v q
  ·rename_i e';cases e';obtain⟨js,e1,rfl⟩:=wA.mp e;obtain⟨l,g⟩:=Jp e1 t;refine⟨by simp[l],λi v q=>?_⟩;cases i with
   |zero=>
    cases q;exact .inr ⟨_,a,rfl⟩
   |succ i=>exact g i v q
  ·cases e
theorem Qo:∀{xs:List V}{is:List Int},zr xs=some is->xs.all flat=true
 | [],_,_=>rfl
 |x::r,is,e=>by
  unfold zr at e;split at e
  ·rename_i e';cases e'
  ·rename_i e';cases e';obtain⟨js,e1,rfl⟩:=wA.mp e;rw[List.all_cons,Qo e1];rfl
  ·rename_i e';cases e';obtain⟨js,e1,rfl⟩:=wA.mp e;rw[List.all_cons,Qo e1];rfl
  ·cases e
theorem K5{A:Around}{E:Value->Shared->Prop}{prog:Program}{w:World}{s:Shared}{l:Addr}{vs:List Value}{xs:List V}{is:List Int}{Q:Value->Shared->Prop}(hh:A.handled=none)(hl:s.heap.IsList l vs.toArray)(ei:zr xs=some is)(hb:Vals xs vs)
  (h:∀h' tk t',(∀b x,s.heap.get? b=some x->h'.get? b=some x)->Q (.int is.sum t') { s with heap:=h',toks:=tk }):wpAny (model prog w) A (call (.builtin "sum") [.ref l]) Q E s:=by
 have hlt:l<s.heap.objs.size:=by obtain⟨_,e,_⟩:=hl;exact Heap.lt_size e
 obtain⟨hlen,hn⟩:=Jp ei hb;refine call_sum_walkAnyB (wpAny_pyIter_list hl ?_);refine⟨s.heap.objs.size,_,_,_,_,_,_,λi=>is.getD i 0,rfl,(Walks.list (prog:=prog) (w:=w) (A:=A.in1) hh s.heap.objs.size l (wR hlt) vs.toArray).toS,
  ⟨⟨_,Heap.get?_push_size _ rfl,rfl,rfl⟩,hl.push _⟩,λb hb=>?_,λi v hP=>hn i v (by simpa using hP),λs' t' hm=>?_⟩
 ·rcases wI.mp hb with rfl|hb
  ·exact Heap.lt_size (Heap.get?_push_size _ rfl)
  ·obtain rfl:=wU.mp hb;obtain⟨_,e,_⟩:=hl;exact Heap.lt_size (Heap.get?_push_of_some _ e)
 ·obtain⟨h',g',d',tk',os'⟩:=s';have e1:g'=s.gens:=hm.gens;have e2:d'=s.drawn:=hm.drawn;have e3:os'=s.os:=hm.os;subst e1 e2 e3;have e:=preSum_getD is vs.toArray.size;rw[wL,hlen,vY (wF _),<-hlen,<-wL]at e;rw[e];exact h h' tk' t' λb o e=>hm.heap b o (λhb=>absurd (Heap.lt_size e) ((wU.mp hb) ▸ wf _)) (Heap.get?_push_of_some _ e)
theorem zL:∀{xs:List V}{is:List Int},zR xs=some is->xs=is.map V.int
 | [],is,e=>by cases e;rfl
 | .int i::r,is,e=>by
  simp only[zR]at e;obtain⟨js,e1,rfl⟩:=wA.mp e;rw[zL e1];rfl
 | .non::_,_,e=>by cases e
 | .bl _::_,_,e=>by cases e
 | .str _::_,_,e=>by cases e
 | .ref _::_,_,e=>by cases e
 | .byt _::_,_,e=>by cases e
 | .flt _::_,_,e=>by cases e
 | .ty _::_,_,e=>by cases e
theorem jL:∀{xs:List V}{is:List Bool},jO xs=some is->xs=is.map V.bl
 | [],is,e=>by cases e;rfl
 | .bl i::r,is,e=>by
  simp only[jO]at e;obtain⟨js,e1,rfl⟩:=wA.mp e;rw[jL e1];rfl
 | .non::_,_,e=>by cases e
 | .int _::_,_,e=>by cases e
 | .str _::_,_,e=>by cases e
 | .ref _::_,_,e=>by cases e
 | .byt _::_,_,e=>by cases e
 | .flt _::_,_,e=>by cases e
 | .ty _::_,_,e=>by cases e
theorem QV{φ:List Addr}:∀{xs:List V},xs.all flat=true->rvs φ xs xs
 | [],_=>.nil
 |x::xs,h=>by
  simp only[List.all_cons,wB]at h;refine .cons ?_ (QV h.2);cases x<;>first|rfl|exact trivial|(cases h.1)
theorem zY:∀{us:List Value}{ns:List Int},IntsAre us ns->Vals (ns.map V.int) us
 |_,_,.nil=>.nil
 |_,_,.cons n t r=>.cons ⟨_,rfl⟩ (zY r)
theorem zP(is:List Int):(is.map V.int).all flat=true:=by simp[flat]
theorem ZL(is:List Bool):(is.map V.bl).all flat=true:=by simp[flat]
noncomputable def fnB:BF->Value
 | .len=>.builtin "len" | .sum=>.builtin "sum" | .all=>.builtin "all" | .any=>.builtin "any" | .max=>.builtin "max" | .min=>.builtin "min"
 | .list=>.type "list" | .int=>.type "int" | .tuple=>.type "tuple" | .sorted=>.builtin "sorted" | .repr=>.builtin "repr" | .bits=>.builtin "int.bit_length" | .maxl=>.builtin "max"
variable (X G) in
def qEL(f:BF):List V->Hp->VK->Prop:=λxs H Q=>∃φ h ws v h',Rl X.K G φ h H/\rvs φ ws xs/\qB8 f ws h=.ok (v,h')/\∀φ' H' w,Ext φ φ'->Rl X.K G φ' h' H'->rv φ' v w->Q w H'
theorem S0{φ:List Addr}{hp:Heap}{x v:V}{u:Value}{d:PyData}(e:n6 x=some d)(r:rv φ x v)(ru:RelV v u):(∃as,Reads hp u d as)/\d.hasDict=false/\d.depth<=0:=by
 unfold n6 at e;split at e
 ·cases e;cases qp r;cases (show u=Value.none from ru);exact⟨⟨_,.none⟩,rfl,wF _⟩
 ·cases e;cases zE r;cases (show u=Value.bool _ from ru);exact⟨⟨_,.bool _⟩,rfl,wF _⟩
 ·cases e;cases qB r;obtain⟨t,rfl⟩:=ru;exact⟨⟨_,.int _ _⟩,rfl,wF _⟩
 ·cases e;cases zG r;obtain⟨t,rfl⟩:=ru;exact⟨⟨_,.str _ _⟩,rfl,wF _⟩
 ·cases e
def DR(P:Program)(W:World)(h:Heap)(n:Nat)(u:Value)(d:PyData):Prop:=(∃as,Reads h u d as)/\d.depth<=n/\(d.showable=true->d.shown.length<=sizeLine->∃bs,ReadAtMost h d.depth bs/\ReprK P W bs h d.depth u d.shown)
def DRs(P:Program)(W:World)(h:Heap)(n:Nat)(us:List Value)(ds:List PyData):Prop:=(∃as,ReadsAll h us ds as)/\PyData.depthAll ds<=n/\(PyData.showableAll ds=true->(∀t∈PyData.shownAll ds,t.length<=sizeLine)->∃bs,ReadAtMost h (PyData.depthAll ds) bs/\ReprAllK P W bs h (PyData.depthAll ds) us (PyData.shownAll ds))
theorem DR.flat{P:Program}{W:World}{hp:Heap}{n:Nat}{u:Value}{d:PyData}(q:(∃as,Reads hp u d as)/\d.hasDict=false/\d.depth<=0):DR P W hp n u d:=by
 obtain⟨⟨as,q1⟩,q2,q3⟩:=q;exact⟨⟨as,q1⟩,by omega,λhs hz=>ReprK.of_reads q1 hs (λz=>by rw[q2]at z;cases z) hz⟩
theorem Qj{P:Program}{W:World}{φ:List Addr}{hp:Heap}{n:Nat}{f:V->Option PyData}(hf:∀x v u d,f x=some d->rv φ x v->RelV v u->DR P W hp n u d):∀(xs ys:List V) (us:List Value) (ds:List PyData),K3 f xs=some ds->rvs φ xs ys->Vals ys us->DRs P W hp n us ds
 | [],ys,us,ds,e,r,ru=>by
  cases e;cases r;cases ru;exact⟨⟨_,.nil⟩,wu _,λ_ _=>⟨[],(λ_ h=>nomatch h),by simp only[PyData.shownAll];exact .nil⟩⟩
 |x::xs,ys,us,ds,e,r,ru=>by
  unfold K3 at e;obtain⟨d,e1,e⟩:=wH.mp e;obtain⟨ds',e2,rfl⟩:=wA.mp e;cases r with
  |cons r1 r2=>
   cases ru with
   |cons u1 u2=>
    obtain⟨⟨as,q1⟩,q3,q2⟩:=hf _ _ _ _ e1 r1 u1;obtain⟨⟨bs,p1⟩,p2,p3⟩:=Qj hf xs _ _ ds' e2 r2 u2;refine⟨⟨_,.cons q1 p1⟩,Nat.max_le.mpr ⟨q3,p2⟩,λhs hz=>?_⟩;have hs':d.showable=true/\PyData.showableAll ds'=true:=by simpa [PyData.showableAll] using hs
    obtain⟨b1,hb1,k1⟩:=q2 hs'.1 (hz _ (by simp only[PyData.shownAll];exact wP ..));obtain⟨b2,hb2,k2⟩:=p3 hs'.2 (λt ht=>hz t (by simp only[PyData.shownAll];exact wN _ ht));refine⟨b1++b2,?_,?_⟩
    ·intro b hm;simp only[PyData.depthAll];rcases wJ.mp hm with hm|hm
     ·obtain⟨d',as',r',hd'⟩:=hb1 b hm;exact⟨d',as',r',wM hd' (Nat.le_max_left _ _)⟩
     ·obtain⟨d',as',r',hd'⟩:=hb2 b hm;exact⟨d',as',r',wM hd' (Nat.le_max_right _ _)⟩
    ·simp only[PyData.depthAll,PyData.shownAll];exact .cons ((k1.more λb hb=>wO _ hb).level_le (Nat.le_max_left _ _)) (k2.more_le (λb hb=>wQ _ hb) (Nat.le_max_right _ _))
theorem DRs.list{P:Program}{W:World}{hp:Heap}{n m:Nat}{p:Addr}{o:Obj}{its:List Value}{ds:List PyData}(q:DRs P W hp n its ds)(ho:hp.get? p=some o)(hc:o.cls=.type "list")(hd:o.data=.seq its.toArray m)(hs:PyData.showableAll ds=true)(hz:(listText (PyData.shownAll ds)).length<=sizeLine):
  ∃bs,ReadAtMost hp (PyData.depthAll ds) bs/\ReprAllK P W bs hp (PyData.depthAll ds) its (PyData.shownAll ds)/\p∉bs:=by
 obtain⟨⟨as,q1⟩,q2,q3⟩:=q;obtain⟨bs,hb,hk⟩:=q3 hs (λt ht=>wM (listText_mem_le ht) hz);exact⟨bs,hb,hk,not_mem_of_deeper (Reads.list ho hc hd (by simpa using q1)) (by simp only[PyData.depth];omega) hb⟩
theorem DRs.tuple{P:Program}{W:World}{hp:Heap}{n m:Nat}{p:Addr}{o:Obj}{its:List Value}{ds:List PyData}(q:DRs P W hp n its ds)(ho:hp.get? p=some o)(hc:o.cls=.type "tuple")(hd:o.data=.seq its.toArray m)(hs:PyData.showableAll ds=true)(hz:(tupleText (PyData.shownAll ds)).length<=sizeLine):
  ∃bs,ReadAtMost hp (PyData.depthAll ds) bs/\ReprAllK P W bs hp (PyData.depthAll ds) its (PyData.shownAll ds)/\p∉bs:=by
 obtain⟨⟨as,q1⟩,q2,q3⟩:=q;obtain⟨bs,hb,hk⟩:=q3 hs (λt ht=>wM (tupleText_mem_le ht) hz);exact⟨bs,hb,hk,not_mem_of_deeper (Reads.tuple ho hc hd (by simpa using q1)) (by simp only[PyData.depth];omega) hb⟩
theorem y1{pins:List (Addr×Obj)}{s:Shared}{σ:_L.St}{H:Hp}{φ:List Addr}{h:AH}(I:Inv X pins σ H s)(R:Rl X.K G φ h H){a:Nat}{p:Addr}(ey:h[a]?=some (.ob (.dct [])))(hp:φ[a]?=some p):∃as,Reads s.heap (.ref p) (.dict []) as/\sysModules∉as:=by
 obtain⟨p',hp',hs⟩:=R.at ey;rw[hp]at hp';cases hp';obtain⟨_,hne,vs,hkv,o,es,ep,h1,h2,h3,h4,h5,h6⟩:=(show _L.ObjOk X.prog X.w H s.heap p (.dK []) from I.hok p _ hs)
 cases hkv;have he:es.toList=[]:=by cases hh:es.toList with|nil=>rfl|cons a b=>rw[hh]at h5;cases h5
 refine⟨_,.dict (as:=[]) (bs:=[]) h1 h2.1 h3 (by rw[he];exact .nil) (by rw[he];exact .nil),λz=>?_⟩;simp at z;rw[<-z]at hne;simp at hne
theorem F2{pins:List (Addr×Obj)}{s:Shared}{σ:_L.St}{H:Hp}{φ:List Addr}{h:AH}(I:Inv X pins σ H s)(R:Rl X.K G φ h H):∀(n:Nat) (x v:V) (u:Value) (d:PyData),dat h n x=some d->rv φ x v->RelV v u->DR X.prog X.w s.heap n u d
 | 0,x,v,u,d,e,r,ru=>.flat (S0 e r ru)
 |n+1,x,v,u,d,e,r,ru=>by
  unfold dat at e;split at e
  ·rename_i a;obtain⟨p,rfl,hp⟩:=qI r;cases (show u=Value.ref p from ru);split at e
   ·rename_i f xs ey;obtain⟨ds,e1,rfl⟩:=wA.mp e;obtain⟨p',zs,hp',hs,rs⟩:=R.lst (show qH h a=some xs by unfold qH;rw[ey]);rw[hp]at hp';cases hp';obtain⟨its,rv',pl,_⟩:=I.list hs;obtain⟨o,ho,hc,m,hd⟩:=pl.isList;have q:=Qj (F2 I R n) xs zs its ds e1 rs rv';obtain⟨⟨as,q1⟩,q2,_⟩:=id q;refine⟨⟨_,.list ho hc hd (by simpa using q1)⟩,Nat.succ_le_succ q2,λhs' hz=>?_⟩;have hz':(listText (PyData.shownAll ds)).length<=sizeLine:=by simpa only[PyData.shown] using hz
    obtain⟨bs,hb,hk,hna⟩:=q.list ho hc hd (by simpa [PyData.showable] using hs') hz';refine⟨p::bs,ReadAtMost.cons (Reads.list ho hc hd (by simpa using q1)) (by simp only[PyData.depth];omega) hb,?_⟩;simp only[PyData.depth,PyData.shown];cases its with
    |nil=>
     cases q1;simp only[PyData.shownAll,listText_nil];exact ReprK.listEmpty ho hc hd
    |cons y l=>exact ReprK.list ho hc hd hna (by simpa using hk.length_eq) (λi y e=>hk.item i y (by simpa using e))
   ·rename_i xs ey;obtain⟨ds,e1,rfl⟩:=wA.mp e;obtain⟨p',zs,hp',hs,rs⟩:=R.tup (show qU h a=some xs by unfold qU;rw[ey]);rw[hp]at hp';cases hp';obtain⟨its,rv',pl,_⟩:=I.tuple hs;obtain⟨o,ho,hc,m,hd⟩:=pl;have q:=Qj (F2 I R n) xs zs its ds e1 rs rv';obtain⟨⟨as,q1⟩,q2,_⟩:=id q;refine⟨⟨_,.tuple ho hc hd (by simpa using q1)⟩,Nat.succ_le_succ q2,λhs' hz=>?_⟩;have hz':(tupleText (PyData.shownAll ds)).length<=sizeLine:=by simpa only[PyData.shown] using hz
    obtain⟨bs,hb,hk,hna⟩:=q.tuple ho hc hd (by simpa [PyData.showable] using hs') hz';refine⟨p::bs,ReadAtMost.cons (Reads.tuple ho hc hd (by simpa using q1)) (by simp only[PyData.depth];omega) hb,?_⟩;simp only[PyData.depth,PyData.shown];exact ReprK.tuple ho hc hd hna (by simpa using hk)
   ·rename_i ey;cases e;obtain⟨as,q1,q2⟩:=y1 I R ey hp;exact⟨⟨as,q1⟩,Nat.succ_le_succ (wu _),λhs hz=>ReprK.of_reads q1 hs (λ_=>q2) hz⟩
   ·cases e
  ·exact .flat (S0 e r ru)
theorem Zz(hc:X.calm=true)(hu:X.A.units+8<cLine)(hgd:X.A.guards=some []):∀f,qj X (fnB f) (qEL X G f):=by
 intro f pins s σ H xs us Q I r ⟨φ,h,ws,v,h',R,rw',e,k⟩;cases f with
 |len=>
  replace e:=zM e;obtain⟨x0,rfl,e⟩:=e;replace e:=qt e;obtain⟨a,rfl,e⟩:=e;split at e
  ·rename_i ys ey;cases e;cases rw' with
   |cons r1 t=>
    cases t;obtain⟨p,rfl,hp⟩:=qI r1;obtain⟨p',zs,hp',hs,rs⟩:=R.its ey;rw[hp]at hp';cases hp';refine _L.call_len_seq pins s σ H _ us Q I r ⟨p,zs,rfl,hs,?_⟩;rw[<-Paired.length rs];exact k φ H _ (.refl _) R rfl
  ·cases e
 |sum=>
  replace e:=zM e;obtain⟨x0,rfl,e⟩:=e;replace e:=qt e;obtain⟨a,rfl,e⟩:=e;split at e
  ·rename_i ys ey;split at e
   ·rename_i is ei;cases e;cases rw' with
    |cons r1 t=>
     cases t;obtain⟨p,rfl,hp⟩:=qI r1;obtain⟨p',zs,hp',hs,rs⟩:=R.lst ey;rw[hp]at hp';cases hp';have hz:=zI (Qo ei) rs;subst hz;obtain⟨its,rv',pl,_⟩:=I.list hs;obtain⟨u,rfl,ru⟩:=_L.vals1 r;cases ru;exact K5 (I.ok.hd hc) pl.isList ei rv' λh1 tk t' hk=>⟨.int is.sum,H,I.kept hk,⟨_,rfl⟩,k φ H _ (.refl _) R rfl⟩
   ·cases e
  ·cases e
 |all=>
  replace e:=zM e;obtain⟨x0,rfl,e⟩:=e;replace e:=qt e;obtain⟨a,rfl,e⟩:=e;split at e
  ·rename_i ys ey;split at e
   ·rename_i is ei;cases e;cases rw' with
    |cons r1 t=>
     cases t;obtain⟨p,rfl,hp⟩:=qI r1;obtain⟨p',zs,hp',hs,rs⟩:=R.lst ey;rw[hp]at hp';cases hp';have hm:=jL ei;subst hm;have hz:=zI (ZL is) rs;subst hz;obtain⟨its,rv',pl,_⟩:=I.list hs;obtain⟨u,rfl,ru⟩:=_L.vals1 r;cases ru;exact K6 (I.ok.hd hc) pl.isList (Zr rv') λh1 tk hk=>⟨.bl (is.all id),H,I.kept hk,rfl,k φ H _ (.refl _) R rfl⟩
   ·cases e
  ·cases e
 |any=>
  replace e:=zM e;obtain⟨x0,rfl,e⟩:=e;replace e:=qt e;obtain⟨a,rfl,e⟩:=e;split at e
  ·rename_i ys ey;split at e
   ·rename_i is ei;cases e;cases rw' with
    |cons r1 t=>
     cases t;obtain⟨p,rfl,hp⟩:=qI r1;obtain⟨p',zs,hp',hs,rs⟩:=R.lst ey;rw[hp]at hp';cases hp';have hm:=jL ei;subst hm;have hz:=zI (ZL is) rs;subst hz;obtain⟨its,rv',pl,_⟩:=I.list hs;obtain⟨u,rfl,ru⟩:=_L.vals1 r;cases ru;exact N4 (I.ok.hd hc) pl.isList (Zr rv') λh1 tk hk=>⟨.bl (is.any id),H,I.kept hk,rfl,k φ H _ (.refl _) R rfl⟩
   ·cases e
  ·cases e
 |max=>
  replace e:=two_inv e;obtain⟨x0,y0,rfl,e⟩:=e;replace e:=qf e;obtain⟨i,j,rfl,rfl,e⟩:=e;cases e;cases rw' with
  |cons r1 t=>
   cases t with
   |cons r2 t=>
    cases t;cases qB r1;cases qB r2;exact _L.call_max2 hc pins s σ H _ us Q I r ⟨_,_,rfl,k φ H _ (.refl _) R rfl⟩
 |min=>
  replace e:=two_inv e;obtain⟨x0,y0,rfl,e⟩:=e;replace e:=qf e;obtain⟨i,j,rfl,rfl,e⟩:=e;cases e;cases rw' with
  |cons r1 t=>
   cases t with
   |cons r2 t=>
    cases t;cases qB r1;cases qB r2;exact _L.call_min2 hc pins s σ H _ us Q I r ⟨_,_,rfl,k φ H _ (.refl _) R rfl⟩
 |maxl=>
  replace e:=zM e;obtain⟨x0,rfl,e⟩:=e;replace e:=qt e;obtain⟨a,rfl,e⟩:=e;split at e
  ·rename_i ys ey;split at e
   ·rename_i M eM;cases e;obtain⟨is,ei,em⟩:=wH.mp eM;cases rw' with
    |cons r1 t=>
     cases t;obtain⟨p,rfl,hp⟩:=qI r1;obtain⟨p',zs,hp',hs,rs⟩:=R.lst ey;rw[hp]at hp';cases hp';have hm:=zL ei;subst hm;have hz:=zI (zP is) rs;subst hz;obtain⟨its,rv',pl,_⟩:=I.list hs;obtain⟨u,rfl,ru⟩:=_L.vals1 r;cases ru;exact A9 (I.ok.hd hc) pl.isList (_L.intsAre_of rv') em λh1 tk t' hk=>⟨.int M,H,I.kept hk,⟨_,rfl⟩,k φ H _ (.refl _) R rfl⟩
   ·cases e
  ·cases e
 |bits=>
  replace e:=zM e;obtain⟨x0,rfl,e⟩:=e;split at e
  ·cases e;cases rw' with
   |cons r1 t=>
    cases t;cases qB r1;obtain⟨u,rfl,ru⟩:=_L.vals1 r;obtain⟨t,rfl⟩:=ru;rename_i j;exact call_int_bit_length ⟨.int ((Builtin.Int.intBits j:Nat):Int),H,I.tok _,⟨_,rfl⟩,k φ H _ (.refl _) R rfl⟩
  ·cases e
 |list=>
  replace e:=zM e;obtain⟨x0,rfl,e⟩:=e;replace e:=qt e;obtain⟨a,rfl,e⟩:=e;split at e
  ·rename_i ys ey;cases e;cases rw' with
   |cons r1 t=>
    cases t;obtain⟨p,rfl,hp⟩:=qI r1;obtain⟨p',zs,hp',hs,rs⟩:=R.its ey;rw[hp]at hp';cases hp';exact _L.call_list_of pins s σ H _ us Q I r ⟨p,zs,rfl,hs,λl hl=>k (φ++[l]) _ _ ⟨[l],rfl⟩ (R.newL hl rs) R.lastRef⟩
  ·cases e
 |tuple=>
  replace e:=zM e;obtain⟨x0,rfl,e⟩:=e;replace e:=qt e;obtain⟨a,rfl,e⟩:=e;split at e
  ·rename_i fz ys ey;cases e;cases rw' with
   |cons r1 t=>
    cases t;obtain⟨p,rfl,hp⟩:=qI r1;obtain⟨p',zs,hp',hs,rs⟩:=R.lst (i:=_) (xs:=ys) (by unfold qH;rw[ey]);rw[hp]at hp';cases hp';exact _L.call_tuple_of pins s σ H _ us Q I r ⟨p,zs,rfl,.inl ⟨hs,λl hl=>k (φ++[l]) _ _ ⟨[l],rfl⟩ (R.newT hl rs) R.lastRef⟩⟩
  ·rename_i ys ey;cases e;cases rw' with
   |cons r1 t=>
    cases t;obtain⟨p,rfl,hp⟩:=qI r1;obtain⟨p',zs,hp',hs,rs⟩:=R.tup (i:=_) (xs:=ys) (by unfold qU;rw[ey]);rw[hp]at hp';cases hp';exact _L.call_tuple_of pins s σ H _ us Q I r ⟨p,zs,rfl,.inr ⟨hs,k φ H _ (.refl _) R hp⟩⟩
  ·cases e
 |int=>
  replace e:=zM e;obtain⟨x0,rfl,e⟩:=e;split at e
  ·cases e;cases rw' with
   |cons r1 t=>
    cases t;cases qB r1;exact _L.call_int1 pins s σ H _ us Q I r (.inl ⟨_,rfl,k φ H _ (.refl _) R rfl⟩)
  ·cases e;cases rw' with
   |cons r1 t=>
    cases t;cases zE r1;exact _L.call_int1 pins s σ H _ us Q I r (.inr ⟨_,rfl,k φ H _ (.refl _) R rfl⟩)
  ·cases e
 |repr=>
  replace e:=zM e;obtain⟨x0,rfl,e⟩:=e;unfold qDF at e;split at e
  ·rename_i v0 ev0;cases e;obtain⟨d,e1,e2⟩:=wH.mp ev0;unfold L3 at e2;split at e2
   ·rename_i hsh;cases e2;cases rw' with
    |cons r1 t=>
     cases t;obtain⟨u,rfl,ru⟩:=_L.vals1 r;cases x0 with
     |ref a=>
      obtain⟨p,rfl,hp⟩:=qI r1;cases (show u=Value.ref p from ru);unfold qD6 dat at e1;dsimp only at e1;split at e1
      ·rename_i f xs ey;obtain⟨ds,e2,rfl⟩:=wA.mp e1;obtain⟨p',zs,hp',hs,rs⟩:=R.lst (show qH h a=some xs by unfold qH;rw[ey]);rw[hp]at hp';cases hp';obtain⟨its,rv',pl,_⟩:=I.list hs;obtain⟨o,ho,hc',m,hd⟩:=pl.isList;have q:=Qj (F2 I R 4) xs zs its ds e2 rs rv';have q2:=q.2.1;have hz':(listText (PyData.shownAll ds)).length<=sizeLine:=by simpa only[PyData.shown] using hsh.2
       obtain⟨bs,hb,hk,hna⟩:=q.list ho hc' hd (by simpa [PyData.showable] using hsh.1) hz';cases its with
       |nil=>
        obtain⟨⟨as,q1⟩,_,_⟩:=q;cases q1;refine call_repr_slot (by omega) ⟨o,ho,hc'⟩ F.slot_list_repr.toG (call_list_repr_empty ⟨o,ho,hc'⟩ ho hd ⟨_,_,rfl,?_⟩);exact⟨.str (PyData.shown (.list [])),H,I.tok _,⟨s.toks,by simp only[PyData.shown,PyData.shownAll,listText_nil]⟩,k φ H _ (.refl _) R rfl⟩
       |cons y l=>
        refine call_repr_slot (by omega) ⟨o,ho,hc'⟩ F.slot_list_repr.toG (call_list_reprK ho hc' hd hna (by simpa using hk.length_eq) (λi y e=>hk.item i y (by simpa using e)) hgd (λb _=>Clear.nil b) (by show X.A.units+1+_<cLine;omega) (λ_ _ e=>e) (λh1 u tk hk=>⟨_,_,rfl,?_⟩) hz');exact⟨.str (PyData.shown (.list ds)),H,I.kept hk,⟨u,by simp only[PyData.shown]⟩,k φ H _ (.refl _) R rfl⟩
      ·rename_i ws ey;obtain⟨ds,e2,rfl⟩:=wA.mp e1;obtain⟨p',zs,hp',hs,rs⟩:=R.tup (show qU h a=some ws by unfold qU;rw[ey]);rw[hp]at hp';cases hp';obtain⟨its,rv',pl,_⟩:=I.tuple hs;obtain⟨o,ho,hc',m,hd⟩:=pl;have q:=Qj (F2 I R 4) ws zs its ds e2 rs rv';have q2:=q.2.1;have hz':(tupleText (PyData.shownAll ds)).length<=sizeLine:=by simpa only[PyData.shown] using hsh.2
       obtain⟨bs,hb,hk,hna⟩:=q.tuple ho hc' hd (by simpa [PyData.showable] using hsh.1) hz';refine call_repr_slot (by omega) ⟨o,ho,hc'⟩ F.slot_tuple_repr (call_tuple_reprK ho hc' hd hna (by simpa using hk) hgd (λb _=>Clear.nil b) (by show X.A.units+1+_<cLine;omega) (λ_ _ e=>e) (λh1 u tk hk=>⟨_,_,rfl,?_⟩) hz');exact⟨.str (PyData.shown (.tuple ds)),H,I.kept hk,⟨u,by simp only[PyData.shown]⟩,k φ H _ (.refl _) R rfl⟩
      ·rename_i ey;cases e1;obtain⟨as,q1,q2⟩:=y1 I R ey hp;refine repr_of_reads' q1 hsh.1 (λ_=>q2) hgd (by show X.A.units+(1+1)<cLine;omega) (λb o e=>e) (λh1 u tk hk=>?_) hsh.2;exact⟨.str (PyData.shown (.dict [])),H,I.kept hk,⟨_,rfl⟩,k φ H _ (.refl _) R rfl⟩
      ·cases e1
     |non=>
      cases e1;cases qp r1;cases (show u=Value.none from ru);exact PySem.P.repr_of_none ⟨.str (PyData.shown .none),H,I.tok _,⟨_,rfl⟩,k φ H _ (.refl _) R rfl⟩
     |bl b=>
      cases e1;cases zE r1;cases (show u=Value.bool b from ru);exact PySem.P.repr_of_bool ⟨.str (PyData.shown (.bool b)),H,I.tok _,⟨_,by cases b<;>rfl⟩,k φ H _ (.refl _) R rfl⟩
     |int i=>
      cases e1;cases qB r1;obtain⟨tt,rfl⟩:=ru;exact PySem.P.repr_of_int (vm hsh.1) ⟨.str (PyData.shown (.int i)),H,I.tok _,⟨_,rfl⟩,k φ H _ (.refl _) R rfl⟩
     |str x=>
      cases e1;cases zG r1;obtain⟨tt,rfl⟩:=ru;exact PySem.P.repr_of_str ⟨.str (PyData.shown (.str x)),H,I.tok _,⟨_,rfl⟩,k φ H _ (.refl _) R rfl⟩ hsh.2
     |_=>cases e1
   ·cases e2
  ·cases e
 |sorted=>
  replace e:=zM e;obtain⟨x0,rfl,e⟩:=e;replace e:=qt e;obtain⟨a,rfl,e⟩:=e;split at e
  ·rename_i ys ey;split at e
   ·rename_i is ei;split at e
    ·rename_i h64;cases e;cases rw' with
     |cons r1 t=>
      cases t;obtain⟨p,rfl,hp⟩:=qI r1;obtain⟨p',zs,hp',hs,rs⟩:=R.lst ey;rw[hp]at hp';cases hp';have hm:=zL ei;subst hm;have hz:=zI (zP is) rs;subst hz;obtain⟨its,rv',pl,_⟩:=I.list hs;obtain⟨u,rfl,ru⟩:=_L.vals1 r;cases ru;have hi:IntsAre its is:=_L.intsAre_of rv';refine sorted_ints pl.isList hi (by rw[IntsAre.length hi];exact h64) λout ns' a1 a2 a3=>?_;have e1:ns'=zo is:=Zq a3 (ZV is) (a2.trans (zA is).symm);subst e1;obtain⟨c,hc'⟩:=sortedAll_at s.heap its out;have hl:=(zA is).length_eq;refine⟨.ref (s.heap.objs.size+1),_,I.laid (t':=s.toks) (o:=.lst ((zo is).map V.int)) (λb o q=>sortedAll_old q) (vd _) ?_,rfl,k (φ++[s.heap.objs.size+1]) _ _ ⟨[_],rfl⟩ (R.newL (I.hok.fresh (vd _)) (QV (zP _))) R.lastRef⟩;refine⟨by rw[wG,hl,sizeLine_eq];omega,out.toList,c,zY a1,?_⟩;rw[Array.toArray_toList];exact hc'
    ·cases e
   ·cases e
  ·cases e
end
open _L (PW)
theorem jP{r:RV}{b:Bool}{h:AH}(e:asB r=.ok (b,h)):r=.ok (.bl b,h):=by
 unfold asB at e;obtain⟨⟨v,h1⟩,e1,e2⟩:=tN e;dsimp only at e2;split at e2
 ·cases e2;exact e1
 ·cases e2
theorem l9{r:RV}{b:Bool}{h:AH}(e:r=.ok (.bl b,h)):asB r=.ok (b,h):=by
 subst e;rfl
section
variable{X:Cx}{G:List Addr}{F:Nat->List V->AH->RV}{a b c:E}{as:Es}{ea eb ec:Expr}{es:List Expr}{pos:Pos}
theorem QN{K:PySem.W.Frag}{σ:St}{H:Hp}{Q:Bool->Hp->Prop}(q:tT K G F a σ H Q):tE K G F a σ H (λx H'=>∃k,x=.bl k/\Q k H'):=by
 obtain⟨φ,h,σa,b,h',R,rs,e,k⟩:=q;exact⟨φ,h,σa,.bl b,h',R,rs,jP e,λφ' H' w x' R' r'=>⟨b,zE r',k φ' H' x' R'⟩⟩
theorem qS(h:SE X G F ea a)(he:∀whole,isTrue ea X.env whole=(do let v <- whole;standAt ea.pos;holding [v] (truthy v))):ST X G F ea a:=
 S2 (_L.pt_val h he) λ_ _ _ q=>QN q
theorem y7{op:COp}{σc:St}{H:Hp}{Q:VK}(q:tE X.K G F (.cmp op a b) σc H Q):_L.tOp (qAB X G op) (tE X.K G F a) (tE X.K G F b) σc H Q:=by
 obtain⟨φ,h,σ,v,h',R,rs,e,k⟩:=q;unfold ev at e;obtain⟨⟨x,h1⟩,e1,e⟩:=tN e;obtain⟨⟨y,h2⟩,e2,e⟩:=tN e;refine zv R rs e1 e2 λφ2 H2 xc yc x2 R2 r1 r2=>?_;unfold h9 at e;dsimp only at e;split at e
 ·rename_i t et;cases e;exact⟨φ2,_,x,y,t,R2,r1,r2,et,k φ2 H2 _ x2 R2 rfl⟩
 ·cases e
theorem qCg{op:COp}(hu:X.A.units+8<cLine)(ha:SE X G F ea a)(hb:SE X G F eb b)(hm:behindInMarks (opC op) eb=false):SE X G F (.Compare ea [opC op] [eb] pos) (.cmp op a b):=
 qi (_L.pe_cmpR (zF hu op) ha hb hm) λ_ _ _=>y7
theorem qBg{op:COp}(hu:X.A.units+8<cLine)(ha:SE X G F ea a)(hb:SE X G F eb b)(hm:behindInMarks (opC op) eb=false):ST X G F (.Compare ea [opC op] [eb] pos) (.cmp op a b):=
 S2 (_L.pt_cmpR (zF hu op) ha hb hm) λ_ _ _ q=>y7 (QN q)
theorem J7{o1 o2:COp}{σc:St}{H:Hp}{Q:VK}(q:tE X.K G F (.cmp2 o1 o2 a b c) σc H Q):_L.tChain (qAB X G o1) (qAB X G o2) (tE X.K G F a) (tE X.K G F b) (tE X.K G F c) σc H Q:=by
 obtain⟨φ,h,σ,v,h',R,rs,e,k⟩:=q;unfold ev at e;obtain⟨⟨x,h1⟩,e1,e⟩:=tN e;obtain⟨⟨y,h2⟩,e2,e⟩:=tN e;refine zv R rs e1 e2 λφ2 H2 xc yc x2 R2 r1 r2=>?_;dsimp only at e;split at e
 ·rename_i et;refine⟨φ2,_,x,y,true,R2,r1,r2,et,true,rfl,?_⟩;rw[if_pos rfl];obtain⟨⟨z,h3⟩,e3,e⟩:=tN e;refine⟨φ2,_,σ,z,h3,R2,rst.mono x2 rs,e3,λφ3 H3 zc x3 R3 r3=>?_⟩;unfold h9 at e;dsimp only at e;split at e
  ·rename_i t et;cases e;exact⟨φ3,_,y,z,t,R3,rv.mono x3 r2,r3,et,k φ3 H3 _ (x2.trans x3) R3 rfl⟩
  ·cases e
 ·rename_i et;cases e;refine⟨φ2,_,x,y,false,R2,r1,r2,et,false,rfl,?_⟩;rw[if_neg (by decide)];exact k φ2 H2 _ x2 R2 rfl
 ·cases e
theorem Y7{o1 o2:COp}(hu:X.A.units+8<cLine)(ha:SE X G F ea a)(hb:SE X G F eb b)(hc:SE X G F ec c)(hm:lastMarks [opC o1,opC o2] [eb,ec]=false):SE X G F (.Compare ea [opC o1,opC o2] [eb,ec] pos) (.cmp2 o1 o2 a b c):=
 qi (_L.pe_chain (zF hu o1) (zF hu o2) ha hb hc hm) λ_ _ _=>J7
theorem c9{o1 o2:COp}(hu:X.A.units+8<cLine)(ha:SE X G F ea a)(hb:SE X G F eb b)(hc:SE X G F ec c)(hm:lastMarks [opC o1,opC o2] [eb,ec]=false):ST X G F (.Compare ea [opC o1,opC o2] [eb,ec] pos) (.cmp2 o1 o2 a b c):=
 S2 (_L.pt_chain (zF hu o1) (zF hu o2) ha hb hc hm) λ_ _ _ q=>J7 (QN q)
noncomputable def A5(r r' r2:_L.R2)(ta tb tc td:_L.TE):_L.TE:=λσ H Q=>ta σ H λx H1=>tb σ H1 λy H2=>r x y H2 λz H3=>∃k,z=.bl k/\
 (if k=true then tc σ H3 λw' H4=>r' y w' H4 λz' H5=>∃k',z'=.bl k'/\(if k'=true then td σ H5 λu' H6=>r2 w' u' H6 Q else Q (.bl false) H5) else Q (.bl false) H3)
section
open _L
theorem R8{X:_L.Cx}{a b c d:Expr}{ta tb tc td:_L.TE}{op op' op2:CmpOp}{r r' r2:R2}(ho:OpR X (compareOp op) r)(ho':OpR X (compareOp op') r')(ho2:OpR X (compareOp op2) r2)(ha:PE X a ta)(hb:PE X b tb)(hc:PE X c tc)(hd:PE X d td)
  (hm:lastMarks [op,op',op2] [b,c,d]=false):PE X (.Compare a [op,op',op2] [b,c,d] pos) (A5 r r' r2 ta tb tc td):=by
 intro pins s σ H Q I h;refine Compare_chain (thn (ha pins s σ H _ I h) λv s1 ⟨x,H1,I1,r1,q1⟩=>chain_link (thn (hb pins s1 σ H1 _ I1 q1) λu s2 ⟨y,H2,I2,r2,q2⟩=>
  thn (ho pins s2 σ H2 x y v u _ I2 r1 r2 q2) λd s3 ⟨z,H3,I3,r3,k,e,q3⟩=>?_)) hm
 subst e;cases r3;refine vo ?_;cases k with
 |false=>exact ite_ff ⟨.bl false,H3,I3,rfl,q3⟩
 |true=>
  refine ite_tt (chain_link (thn (hc pins s3 σ H3 _ I3 q3) λw' s4 ⟨z',H4,I4,r4,q4⟩=>thn (ho' pins s4 σ H4 y z' u w' _ I4 r2 r4 q4) λd' s5 ⟨z2,H5,I5,r5,k2,e2,q5⟩=>?_));subst e2;cases r5;refine vo ?_;cases k2 with
  |false=>exact ite_ff ⟨.bl false,H5,I5,rfl,q5⟩
  |true=>exact ite_tt (chain_last (thn (hd pins s5 σ H5 _ I5 q5) λw2 s6 ⟨z3,H6,I6,r6,q6⟩=>ho2 pins s6 σ H6 z' z3 w' w2 Q I6 r4 r6 q6))
theorem S5{X:_L.Cx}{a b c d:Expr}{ta tb tc td:_L.TE}{op op' op2:CmpOp}{r r' r2:R2}(ho:OpR X (compareOp op) r)(ho':OpR X (compareOp op') r')(ho2:OpR X (compareOp op2) r2)(ha:PE X a ta)(hb:PE X b tb)(hc:PE X c tc)(hd:PE X d td)
  (hm:lastMarks [op,op',op2] [b,c,d]=false):PT X (.Compare a [op,op',op2] [b,c,d] pos) (qBP (A5 r r' r2 ta tb tc td)):=by
 intro pins s σ H Q I h;refine isTrue_chain (thn (ha pins s σ H _ I h) λv s1 ⟨x,H1,I1,r1,q1⟩=>test_link (thn (hb pins s1 σ H1 _ I1 q1) λu s2 ⟨y,H2,I2,r2,q2⟩=>
  thn (ho pins s2 σ H2 x y v u _ I2 r1 r2 q2) λd s3 ⟨z,H3,I3,r3,k,e,q3⟩=>?_)) hm
 subst e;cases r3;refine vo ?_;cases k with
 |false=>
  obtain⟨k',e',q'⟩:=q3;cases e';exact ite_ff ⟨H3,I3,q'⟩
 |true=>
  refine ite_tt (test_link (thn (hc pins s3 σ H3 _ I3 q3) λw' s4 ⟨z',H4,I4,r4,q4⟩=>thn (ho' pins s4 σ H4 y z' u w' _ I4 r2 r4 q4) λd' s5 ⟨z2,H5,I5,r5,k2,e2,q5⟩=>?_));subst e2;cases r5;refine vo ?_;cases k2 with
  |false=>
   obtain⟨k',e',q'⟩:=q5;cases e';exact ite_ff ⟨H5,I5,q'⟩
  |true=>
   refine ite_tt (test_last (thn (hd pins s5 σ H5 _ I5 q5) λw2 s6 ⟨z3,H6,I6,r6,q6⟩=>thn (ho2 pins s6 σ H6 z' z3 w' w2 _ I6 r4 r6 q6) λd2 s7 ⟨z4,H7,I7,r7,k4,e4,q7⟩=>?_));subst e4;cases r7;exact vo ⟨H7,I7,q7⟩
end
theorem Jj{o1 o2 o3:COp}{σc:St}{H:Hp}{Q:VK}(q:tE X.K G F (.cmp3 o1 o2 o3 a b c d) σc H Q):A5 (qAB X G o1) (qAB X G o2) (qAB X G o3) (tE X.K G F a) (tE X.K G F b) (tE X.K G F c) (tE X.K G F d) σc H Q:=by
 obtain⟨φ,h,σ,v,h',R,rs,e,k⟩:=q;unfold ev at e;obtain⟨⟨x,h1⟩,e1,e⟩:=tN e;obtain⟨⟨y,h2⟩,e2,e⟩:=tN e;refine zv R rs e1 e2 λφ2 H2 xc yc x2 R2 r1 r2=>?_;dsimp only at e;split at e
 ·rename_i et;refine⟨φ2,_,x,y,true,R2,r1,r2,et,true,rfl,?_⟩;rw[if_pos rfl];obtain⟨⟨z,h3⟩,e3,e⟩:=tN e;refine⟨φ2,_,σ,z,h3,R2,rst.mono x2 rs,e3,λφ3 H3 zc x3 R3 r3=>?_⟩;dsimp only at e;split at e
  ·rename_i et3;refine⟨φ3,_,y,z,true,R3,rv.mono x3 r2,r3,et3,true,rfl,?_⟩;rw[if_pos rfl];obtain⟨⟨w,h4⟩,e4,e⟩:=tN e;refine⟨φ3,_,σ,w,h4,R3,rst.mono x3 (rst.mono x2 rs),e4,λφ4 H4 wc x4 R4 r4=>?_⟩;unfold h9 at e;dsimp only at e;split at e
   ·rename_i t et;cases e;exact⟨φ4,_,z,w,t,R4,rv.mono x4 r3,r4,et,k φ4 H4 _ ((x2.trans x3).trans x4) R4 rfl⟩
   ·cases e
  ·rename_i et3;cases e;refine⟨φ3,_,y,z,false,R3,rv.mono x3 r2,r3,et3,false,rfl,?_⟩;rw[if_neg (by decide)];exact k φ3 H3 _ (x2.trans x3) R3 rfl
  ·cases e
 ·rename_i et;cases e;refine⟨φ2,_,x,y,false,R2,r1,r2,et,false,rfl,?_⟩;rw[if_neg (by decide)];exact k φ2 H2 _ x2 R2 rfl
 ·cases e
theorem P7{o1 o2 o3:COp}(hu:X.A.units+8<cLine)(ha:SE X G F ea a)(hb:SE X G F eb b)(hc:SE X G F ec c)(hd:SE X G F ed d)(hm:lastMarks [opC o1,opC o2,opC o3] [eb,ec,ed]=false):SE X G F (.Compare ea [opC o1,opC o2,opC o3] [eb,ec,ed] pos) (.cmp3 o1 o2 o3 a b c d):=
 qi (R8 (zF hu o1) (zF hu o2) (zF hu o3) ha hb hc hd hm) λ_ _ _=>Jj
theorem U4{o1 o2 o3:COp}(hu:X.A.units+8<cLine)(ha:SE X G F ea a)(hb:SE X G F eb b)(hc:SE X G F ec c)(hd:SE X G F ed d)(hm:lastMarks [opC o1,opC o2,opC o3] [eb,ec,ed]=false):ST X G F (.Compare ea [opC o1,opC o2,opC o3] [eb,ec,ed] pos) (.cmp3 o1 o2 o3 a b c d):=
 S2 (S5 (zF hu o1) (zF hu o2) (zF hu o3) ha hb hc hd hm) λ_ _ _ q=>Jj (QN q)
theorem qAW{σc:St}{H:Hp}{Q:VK}(q:tE X.K G F (.and a b) σc H Q):_L.tAndV (tE X.K G F a) (tE X.K G F b) σc H Q:=by
 obtain⟨φ,h,σ,v,h',R,rs,e,k⟩:=q;unfold ev at e;obtain⟨⟨x,h1⟩,e1,e⟩:=tN e;refine⟨φ,h,σ,.bl x,h1,R,rs,jP e1,λφ1 H1 w x1 R1 r1=>⟨x,zE r1,?_⟩⟩;dsimp only at e;cases x with
 |true=>
  rw[if_pos rfl]at e ⊢;exact⟨φ1,h1,σ,v,h',R1,rst.mono x1 rs,e,λφ2 H2 w2 x2 R2 r2=>k φ2 H2 w2 (x1.trans x2) R2 r2⟩
 |false=>
  rw[if_neg (by decide)]at e ⊢;cases e;exact k φ1 H1 _ x1 R1 rfl
theorem qBx{σc:St}{H:Hp}{Q:VK}(q:tE X.K G F (.or a b) σc H Q):_L.tOrV (tE X.K G F a) (tE X.K G F b) σc H Q:=by
 obtain⟨φ,h,σ,v,h',R,rs,e,k⟩:=q;unfold ev at e;obtain⟨⟨x,h1⟩,e1,e⟩:=tN e;refine⟨φ,h,σ,.bl x,h1,R,rs,jP e1,λφ1 H1 w x1 R1 r1=>⟨x,zE r1,?_⟩⟩;dsimp only at e;cases x with
 |false=>
  rw[if_neg (by decide)]at e ⊢;exact⟨φ1,h1,σ,v,h',R1,rst.mono x1 rs,e,λφ2 H2 w2 x2 R2 r2=>k φ2 H2 w2 (x1.trans x2) R2 r2⟩
 |true=>
  rw[if_pos rfl]at e ⊢;cases e;exact k φ1 H1 _ x1 R1 rfl
theorem qCE{σc:St}{H:Hp}{Q:Bool->Hp->Prop}(q:tT X.K G F (.and a b) σc H Q):_L.tAnd (tT X.K G F a) (tT X.K G F b) σc H Q:=by
 obtain⟨φ,h,σ,t,h',R,rs,e,k⟩:=q;have e:=jP e;unfold ev at e;obtain⟨⟨x,h1⟩,e1,e⟩:=tN e;refine⟨φ,h,σ,x,h1,R,rs,e1,λφ1 H1 x1 R1=>?_⟩;dsimp only at e;cases x with
 |true=>
  rw[if_pos rfl]at e ⊢;exact⟨φ1,h1,σ,t,h',R1,rst.mono x1 rs,l9 e,λφ2 H2 x2 R2=>k φ2 H2 (x1.trans x2) R2⟩
 |false=>
  rw[if_neg (by decide)]at e ⊢;cases e;exact k φ1 H1 x1 R1
theorem qEP{σc:St}{H:Hp}{Q:Bool->Hp->Prop}(q:tT X.K G F (.or a b) σc H Q):_L.tOr (tT X.K G F a) (tT X.K G F b) σc H Q:=by
 obtain⟨φ,h,σ,t,h',R,rs,e,k⟩:=q;have e:=jP e;unfold ev at e;obtain⟨⟨x,h1⟩,e1,e⟩:=tN e;refine⟨φ,h,σ,x,h1,R,rs,e1,λφ1 H1 x1 R1=>?_⟩;dsimp only at e;cases x with
 |false=>
  rw[if_neg (by decide)]at e ⊢;exact⟨φ1,h1,σ,t,h',R1,rst.mono x1 rs,l9 e,λφ2 H2 x2 R2=>k φ2 H2 (x1.trans x2) R2⟩
 |true=>
  rw[if_pos rfl]at e ⊢;cases e;exact k φ1 H1 x1 R1
variable (X G F) in
abbrev SW(e:Expr)(a:E):Prop:=PW X e (tT X.K G F a)
theorem qBy{e:Expr}{t t':TT}(h:PW X e t)(w:∀σ H Q,t' σ H Q->t σ H Q):PW X e t':=λwh pins s σ H Q I q=>h wh pins s σ H Q I (w σ H Q q)
theorem qBa{QI:List Expr}(ha:SE X G F ea a)(hb:SE X G F (.BoolOp .And (eb::QI) pos) b):SE X G F (.BoolOp .And (ea::eb::QI) pos) (.and a b):=qi (_L.pe_and ha hb) λ_ _ _=>qAW
theorem qDr{QI:List Expr}(ha:SE X G F ea a)(hb:SE X G F (.BoolOp .Or (eb::QI) pos) b):SE X G F (.BoolOp .Or (ea::eb::QI) pos) (.or a b):=qi (_L.pe_or ha hb) λ_ _ _=>qBx
theorem qCB{QI:List Expr}(ha:ST X G F ea a)(hb:SW X G F (.BoolOp .And (eb::QI) pos) b):SW X G F (.BoolOp .And (ea::eb::QI) pos) (.and a b):=qBy (_L.pw_and ha hb) λ_ _ _=>qCE
theorem qDu{QI:List Expr}(ha:ST X G F ea a)(hb:SW X G F (.BoolOp .Or (eb::QI) pos) b):SW X G F (.BoolOp .Or (ea::eb::QI) pos) (.or a b):=qBy (_L.pw_or ha hb) λ_ _ _=>qEP
theorem qB0(ha:SE X G F ea a):SE X G F (.UnaryOp .Not ea pos) (.not a):=by
 refine qi (_L.pe_not ha) λσc H Q q=>?_;obtain⟨φ,h,σ,v,h',R,rs,e,k⟩:=q;unfold ev at e;obtain⟨⟨x,h1⟩,e1,e⟩:=tN e;cases e;exact⟨φ,h,σ,.bl x,_,R,rs,jP e1,λφ1 H1 w x1 R1 r1=>⟨x,zE r1,k φ1 H1 _ x1 R1 rfl⟩⟩
theorem qCS(ha:ST X G F ea a):ST X G F (.UnaryOp .Not ea pos) (.not a):=by
 refine S2 (_L.pt_not ha) λσc H Q q=>?_;obtain⟨φ,h,σ,t,h',R,rs,e,k⟩:=q;have e:=jP e;unfold ev at e;obtain⟨⟨x,h1⟩,e1,e⟩:=tN e;cases e;exact⟨φ,h,σ,x,_,R,rs,e1,λφ1 H1 x1 R1=>k φ1 H1 x1 R1⟩
noncomputable def qN:Expr->Bool
 | .Starred ..=>false
 |_=>true
theorem qC{e:Expr}{env:Env}(h:qN e=true):starEach (e::es) env=(false,eval e env)::starEach es env:=by
 cases e<;>first|rfl|cases h
theorem zd{env:Env}:∀{es:List Expr},es.all qN=true->(backTo pos (starEach es env)).any (·.1)=false
 | [],_=>rfl
 |e::es,h=>by
  simp only[List.all_cons,wB]at h;rw[qC h.1];show (false||(backTo pos (starEach es env)).any (·.1))=false;rw[zd h.2];rfl
theorem qBX:SA X G F [] .nil:=by
 refine qBo _L.pa_nil λσc H Q q=>?_;obtain⟨φ,h,σ,v,h',R,rs,e,k⟩:=q;unfold evs at e;cases e;exact k φ H [] (.refl _) R .nil
theorem qAM(hn:qN ea=true)(ha:SE X G F ea a)(hr:SA X G F es as):SA X G F (ea::es) (.cons a as):=by
 refine qBo (_L.pa_cons ha hr (qC hn)) λσc H Q q=>?_;obtain⟨φ,h,σ,v,h',R,rs,e,k⟩:=q;unfold evs at e;obtain⟨⟨x,h1⟩,e1,e⟩:=tN e;obtain⟨⟨xs,h2⟩,e2,e⟩:=tN e;cases e;exact⟨φ,h,σ,x,h1,R,rs,e1,λφ1 H1 w x1 R1 r1=>⟨φ1,h1,σ,xs,_,R1,rst.mono x1 rs,e2,λφ2 H2 ws x2 R2 r2=>k φ2 H2 _ (x1.trans x2) R2 (.cons (rv.mono x2 r1) r2)⟩⟩
theorem qCW(h:SA X G F es as):SE X G F (.List es pos) (.lst as):=by
 refine qi (_L.pe_lst h) λσc H Q q=>?_;obtain⟨φ,h,σ,v,h',R,rs,e,k⟩:=q;unfold ev at e;obtain⟨⟨xs,h1⟩,e1,e⟩:=tN e;refine⟨φ,h,σ,xs,h1,R,rs,e1,λφ1 H1 ws x1 R1 r1=>?_⟩;dsimp only at e;split at e
 ·rename_i hl;cases e;refine⟨by rw[<-Paired.length r1];exact wM hl QW,λp hp=>k (φ1++[p]) _ _ (x1.trans ⟨[p],rfl⟩) (R1.newL hp r1) R1.lastRef⟩
 ·cases e
theorem P6:SE X G F (.Dict [] [] pos) .dnew:=by
 intro pins s σc H Q I q;obtain⟨φ,h,σ,v,h',R,rs,e,k⟩:=q;unfold ev at e;cases e;have hbig:sysModules<s.heap.objs.size:=wq (by decide) (I.mod.glob.keeps I.bk).lt;have hn:=I.hok.fresh (wF s.heap.objs.size);exact wpAny_Dict_empty ⟨.ref s.heap.objs.size,_,I.laid (a:=s.heap.objs.size) (o:=.dK []) (t':=s.toks) (λ_ _ q=>Heap.get?_push_of_some _ q) (wF _)
  ⟨wu _,beq_eq_false_iff_ne.mpr (Ne.symm (wR hbig)),[],.nil,Heap.DictOf.new s.heap⟩,rfl,
  k (φ++[s.heap.objs.size]) _ _ ⟨[s.heap.objs.size],rfl⟩ (R.new hn (o:=.ob (.dct [])) qF) R.lastRef⟩
theorem o0 {x1}(h:SA X G F es as):SE X G F (.Tuple es x1 pos) (.tup as):=by
 refine qi (_L.pe_tup h) λσc H Q q=>?_;obtain⟨φ,h,σ,v,h',R,rs,e,k⟩:=q;unfold ev at e;obtain⟨⟨xs,h1⟩,e1,e⟩:=tN e;refine⟨φ,h,σ,xs,h1,R,rs,e1,λφ1 H1 ws x1 R1 r1=>?_⟩;dsimp only at e;split at e
 ·rename_i hl;cases e;refine⟨by rw[<-Paired.length r1];exact wM hl QW,λp hp=>k (φ1++[p]) _ _ (x1.trans ⟨[p],rfl⟩) (R1.newT hp r1) R1.lastRef⟩
 ·cases e
variable (G F) in
noncomputable def spF(K:PySem.W.Frag)(f:Nat):_L.Sp:=λvs H Q _=>∃φ h ws v h',Rl K G φ h H/\rvs φ ws vs/\F f ws h=.ok (v,h')/\∀φ' H' w,Ext φ φ'->Rl K G φ' h' H'->rv φ' v w->Q w H'
variable (X G F) in
structure FnS(f:Nat)(x:Str):Prop where
 ex:∃k fa fd ps,_L.FnOk X.prog X.w X.K X.mg X.base _L.CX0 k fa fd ps (spF G F X.K f)/\_L.Room k X.A/\X.mg x=some (.ref fa)/\PySem.W.keepIn X.K (.ref fa)=true/\_L.Binds X.K fd ps []/\_L.Room k X.A.in1
theorem U6{f:Nat}{σc:St}{H:Hp}{Q:VK}(q:tE X.K G F (.call f as) σc H Q):_L.tCall (spF G F X.K f) [] _L.E0 (tL X.K G F as) σc H Q:=by
 obtain⟨φ,h,σ,v,h',R,rs,e,k⟩:=q;unfold ev at e;obtain⟨⟨xs,h1⟩,e1,e⟩:=tN e;refine⟨φ,h,σ,xs,h1,R,rs,e1,λφ1 H1 ws x1 R1 r1=>?_⟩;have e:F f xs h1=.ok (v,h'):=by
  have e:(F f xs h1).nx=.ok (v,h'):=e;revert e;generalize F f xs h1=r;cases r<;>intro e<;>first|exact e|cases e
 refine⟨φ1,h1,xs,v,h',R1,by rw[wV];exact r1,e,λφ2 H2 w x2 R2 r2=>k φ2 H2 w (x1.trans x2) R2 r2⟩
theorem qAK{f:Nat}{x:Str}{p:Pos}(hf:FnS X G F f x)(hg:_L.Gl X x)(hd:(x==("__debug__":Str))=false)(hn:qN ea=true)(hs:es.all qN=true)(ha:SA X G F (ea::es) as):SE X G F (.Call (.Name x p) (ea::es) [] pos) (.call f as):=by
 obtain⟨k,fa,fd,ps,h1,h2,h3,h4,h5,_⟩:=hf.ex;exact qi (_L.pe_call h1 h2 hg h3 h4 h5 .nil _L.pass0 ha hd (qC hn) (zd hs)) λ_ _ _=>U6
theorem Z6{f:Nat}{x:Str}{p:Pos}(hf:FnS X G F f x)(hg:_L.Gl X x)(hd:(x==("__debug__":Str))=false):SE X G F (.Call (.Name x p) [] [] pos) (.call f .nil):=by
 obtain⟨k,fa,fd,ps,h1,h2,h3,h4,h5,_⟩:=hf.ex;refine qi (_L.pe_call0 h1 h2 hg h3 h4 h5 .nil _L.pass0 hd) λσc H Q q=>?_;obtain⟨φ,h,σ,vs,h',R,rs,e,k⟩:=U6 q;unfold evs at e;cases e;exact k φ H [] (.refl _) R .nil
theorem k0{f:BF}{σc:St}{H:Hp}{Q:VK}(q:tE X.K G F (.blt f as) σc H Q):_L.tCB (qEL X G f) (tL X.K G F as) σc H Q:=by
 obtain⟨φ,h,σ,v,h',R,rs,e,k⟩:=q;unfold ev at e;obtain⟨⟨xs,h1⟩,e1,e⟩:=tN e;exact⟨φ,h,σ,xs,h1,R,rs,e1,λφ1 H1 ws x1 R1 r1=>⟨φ1,h1,xs,v,h',R1,r1,e,λφ2 H2 w x2 R2 r2=>k φ2 H2 w (x1.trans x2) R2 r2⟩⟩
theorem qCm{f:BF}{x:Str}{p:Pos}(hc:X.calm=true)(hu:X.A.units+8<cLine)(hgd:X.A.guards=some [])(hg:_L.Gl X x)(hm:X.mg x=none)(hv:bootBuiltins x=some (fnB f))(hn:qN ea=true)(hs:es.all qN=true)(ha:SA X G F (ea::es) as)
  (h1:x≠"__name__") (h2:(x==("__debug__":Str))=false):SE X G F (.Call (.Name x p) (ea::es) [] pos) (.blt f as):=by
 have rule:=Zz (G:=G) hc hu hgd f;cases f
 all_goals first
  |exact qi (_L.pe_callB rule hg hm hv ha h1 h2 (qC hn) (zd hs)) λ_ _ _=>k0
  |exact qi (_L.pe_callTy rule hg hm hv ha h1 h2 (qC hn) (zd hs)) λ_ _ _=>k0
theorem qBL{apos cpos:Pos}(hc:X.calm=true)(hu:X.A.units+8<cLine)(hgd:X.A.guards=some [])(hbase:attributeBase ea "bit_length" X.env (eval ea X.env)=eval ea X.env)(hline:(apos.endLine==cpos.line)=true)(ha:SE X G F ea a):
  SE X G F (.Call (.Attribute ea "bit_length" apos) [] [] cpos) (.blt .bits (.cons a .nil)):=by
 have rule:_L.MtR X "int.bit_length" (λx xs H Q=>∃i,x=.int i/\xs=[]/\qEL X G .bits [.int i] H Q):=λpins s σ H x xs v us Q I rx rs q=>by
  obtain⟨i,rfl,rfl,q⟩:=q;cases rs;exact Zz (G:=G) hc hu hgd .bits pins s σ H [.int i] [v] Q I (.cons rx .nil) q
 refine qi (_L.pe_bm0 PySem.F.plainAttrs_int PyProof.Rows.slot_int_bit_length PyProof.Rows.type_int_bit_length rule ha hbase hline) λσc H Q q=>?_;obtain⟨φ,h,σ,v,h',R,rs,e,k⟩:=q;unfold ev at e;obtain⟨⟨xs,h1⟩,e1,e2⟩:=tN e;unfold evs evs at e1;obtain⟨⟨x,h2⟩,e3,e4⟩:=tN e1;cases e4;replace e2:qB8 .bits [x] h1=.ok (v,h'):=e2;cases x with
 |int i=>exact⟨φ,h,σ,_,_,R,rs,e3,λφ1 H1 w x1 R1 r1=>by
   cases qB r1;exact⟨rfl,i,rfl,rfl,φ1,_,[.int i],v,h',R1,.cons rfl .nil,e2,λφ2 H2 w x2 R2 r2=>k φ2 H2 w (x1.trans x2) R2 r2⟩⟩
 |_=>cases e2
noncomputable def JF(t:String):Bool:=t=="int"||t=="bool"||t=="list"||t=="tuple"||t=="str"||t=="dict"
theorem Ql(K:PySem.W.Frag):∀{t c:String},(t="NoneType"\/t="bool"\/t="int"\/t="str"\/t="list"\/t="tuple"\/t="dict")->JF c=true->PySem.W.kitOne K (.type t) (.type c)=some (qW t c):=by
 intro t c ht hc;have hc':c="int"\/c="bool"\/c="list"\/c="tuple"\/c="str"\/c="dict":=by
  simp only[JF,wv,beq_iff_eq]at hc;rcases hc with((((h|h)|h)|h)|h)|h<;>simp[h]
 rcases ht with rfl|rfl|rfl|rfl|rfl|rfl|rfl<;>rcases hc' with rfl|rfl|rfl|rfl|rfl|rfl<;>kernel_rfl
variable (X G) in
def qGJ(c:String):List V->Hp->VK->Prop:=λxs H Q=>∃φ h xa x t,xs=[x,.ty c]/\Rl X.K G φ h H/\rv φ xa x/\zj h xa=some t/\Q (.bl (qW t c)) H
theorem T8{c:String}(hc:JF c=true):qj X (.builtin "isinstance") (qGJ X G c):=by
 intro pins s σ H xs us Q I r ⟨φ,h,xa,x,t,e,R,rx,ht,q⟩;subst e;obtain⟨u,u2,rfl,r1,r2⟩:=_L.vals2 r;cases (show u2=Value.type c from r2);have fin:∀tk,EP X pins σ Q (.bool (qW t c)) { s with toks:=tk }:=λtk=>⟨.bl (qW t c),H,I.tok tk,rfl,q⟩
 cases xa with
 |non=>cases qp rx;cases r1;cases ht;exact PySem.W.kia_one PySem.W.kitx_none I.kIn True.intro (Ql _ (by simp) hc) (λz=>nomatch z) fin
 |bl i=>cases zE rx;cases r1;cases ht;exact PySem.W.kia_one PySem.W.kitx_bool I.kIn True.intro (Ql _ (by simp) hc) (λz=>nomatch z) fin
 |int i=>cases qB rx;obtain⟨t',rfl⟩:=r1;cases ht;exact PySem.W.kia_one PySem.W.kitx_int I.kIn True.intro (Ql _ (by simp) hc) (λz=>nomatch z) fin
 |str i=>cases zG rx;obtain⟨t',rfl⟩:=r1;cases ht;exact PySem.W.kia_one PySem.W.kitx_str I.kIn True.intro (Ql _ (by simp) hc) (λz=>nomatch z) fin
 |ref i=>
  obtain⟨p,rfl,hp⟩:=qI rx;cases r1;cases ey:h[i]? with
  |none=>rw[show zj h (.ref i)=none by simp only[zj,ey]]at ht;cases ht
  |some o=>
   cases o with
   |lst fz ys=>
    rw[show zj h (.ref i)=some "list" by simp only[zj,ey]]at ht;cases ht;obtain⟨p',zs,hp',hs,rs⟩:=R.lst (i:=i) (xs:=ys) (by unfold qH;rw[ey]);rw[hp]at hp';cases hp';obtain⟨its,_,pl,_⟩:=I.list hs;obtain⟨o,ho,hcl,_⟩:=pl.isList;exact PySem.W.kia_one PySem.W.kitx_list I.kIn ⟨o,ho,hcl⟩ (Ql _ (by simp) hc) (λz=>nomatch z) fin
   |tup ys=>
    rw[show zj h (.ref i)=some "tuple" by simp only[zj,ey]]at ht;cases ht;obtain⟨p',zs,hp',hs,rs⟩:=R.tup (i:=i) (xs:=ys) (by unfold qU;rw[ey]);rw[hp]at hp';cases hp';obtain⟨its,_,pl,_⟩:=I.tuple hs;obtain⟨o,ho,hcl,_⟩:=pl;exact PySem.W.kia_one PySem.W.kitx_tuple I.kIn ⟨o,ho,hcl⟩ (Ql _ (by simp) hc) (λz=>nomatch z) fin
   |ob ks=>
    cases ks with
    |exn c=>rw[show zj h (.ref i)=none by simp only[zj,ey]]at ht;cases ht
    |dct kvs=>
     rw[show zj h (.ref i)=some "dict" by simp only[zj,ey]]at ht;cases ht;obtain⟨p',hp',hs⟩:=R.at ey;rw[hp]at hp';cases hp';obtain⟨_,_,vs,_,o,es,ep,h1,h2,_⟩:=(show _L.ObjOk X.prog X.w H s.heap p (.dK (kvs.map kk)) from I.hok p _ hs)
     exact PySem.W.kia_one PySem.W.kitx_dict I.kIn ⟨o,h1,h2.1⟩ (Ql _ (by simp) hc) (λz=>nomatch z) fin
 |_=>cases ht
theorem qCP{c:String}{xc:Str}{p pc:Pos}(hc:JF c=true)(hg:_L.Gl X "isinstance")(hm:X.mg "isinstance"=none)(hgc:_L.Gl X xc)(hmc:X.mg xc=none)(hvc:bootBuiltins xc=some (.type c))(hn1:xc≠"__name__")(hn2:(xc==("__debug__":Str))=false)
  (hn:qN ea=true) (ha:SE X G F ea a):SE X G F (.Call (.Name "isinstance" p) [ea,.Name xc pc] [] pos) (.isi a [c]):=by
 refine qi (_L.pe_callB (T8 (G:=G) hc) hg hm PyProof.Rows.boot_isinstance (_L.pa_cons ha (_L.pa_cons (_L.pe_bltn (v:=.ty c) hgc hmc hvc rfl hn1 hn2) _L.pa_nil rfl) (qC hn)) (by decide) (by decide) (qC hn) rfl) λσc H Q q=>?_;obtain⟨φ,h,σ,v,h',R,rs,e,k⟩:=q;unfold ev at e;obtain⟨⟨x,h1⟩,e1,e⟩:=tN e;refine⟨φ,h,σ,x,h1,R,rs,e1,λφ1 H1 w x1 R1 r1=>?_⟩;dsimp only at e;split at e
 ·rename_i t et;cases e;refine⟨φ1,_,x,w,t,rfl,R1,r1,et,?_⟩;have:=k φ1 H1 (.bl ([c].any (qW t))) x1 R1 rfl;simpa using this
 ·cases e
noncomputable def jR:Expr->Bool
 | .Slice ..=>false
 |_=>true
theorem M0{e:Expr}(h:jR e=true):_L.PlainIx e:=by
 intro o i;cases e<;>first|rfl|cases h
theorem qBp(hb':jR eb=true)(ha:SE X G F ea a)(hb:SE X G F eb b):SE X G F (.Subscript ea eb pos) (.idx a b):=by
 refine qi (_L.pe_ix (_L.ix_list.or _L.ix_tup) ha hb (M0 hb')) λσc H Q q=>?_;obtain⟨φ,h,σ,v,h',R,rs,e,k⟩:=q;unfold ev at e;obtain⟨⟨x,h1⟩,e1,e⟩:=tN e;obtain⟨⟨y,h2⟩,e2,e⟩:=tN e;refine zv R rs e1 e2 λφ2 H2 xc yc x2 R2 r1 r2=>?_;cases x with
 |ref p=>
  cases y with
  |int i=>
   dsimp only at e;split at e
   ·rename_i xs ex;split at e
    ·rename_i w ew;cases e;obtain⟨p',zs,hp',hs,rs'⟩:=R2.its ex;obtain⟨q,rfl,hq⟩:=qI r1;rw[hp']at hq;cases hq;cases qB r2;obtain⟨j,ej,ew⟩:=wH.mp ew;obtain⟨w',hw',rw'⟩:=qJ rs' ew;have hat:_L.atI zs i=some w':=by
      unfold _L.atI;rw[<-Paired.length rs'];exact wH.mpr ⟨j,ej,hw'⟩
     rcases hs with hs|hs
     ·exact .inl ⟨_,zs,i,w',rfl,rfl,hs,hat,k φ2 H2 w' x2 R2 rw'⟩
     ·exact .inr ⟨_,zs,i,w',rfl,rfl,hs,hat,k φ2 H2 w' x2 R2 rw'⟩
    ·cases e
   ·cases e
  |_=>cases e
 |_=>cases e
theorem ZC{φ:List Addr}{xs ys:List V}(r:rvs φ xs ys)(lo hi:Option Int):rvs φ (_L.cutV xs lo hi) (_L.cutV ys lo hi):=by
 unfold _L.cutV;rw[Paired.length r];exact zf _ (Qb _ r)
variable (X G F) in
def SO(o:Option Expr)(as:Es):Prop:=_L.PO X o λσc H Q=>∃φ h σ is h',Rl X.K G φ h H/\rst φ σ σc/\(∃vs,evs F as σ h=.ok (vs,h')/\zR vs=some is)/\∀φ' H',Ext φ φ'->Rl X.K G φ' h' H'->Q is.head? H'
theorem qAn:SO X G F none .nil:=by
 intro pins s σc H Q I q;obtain⟨φ,h,σ,is,h',R,rs,⟨vs,e,ei⟩,k⟩:=q;unfold evs at e;cases e;cases ei;exact _L.po_none pins s σc H Q I (k φ H (.refl _) R)
theorem B0(ha:SE X G F ea a):SO X G F (some ea) (.cons a .nil):=by
 intro pins s σc H Q I q;obtain⟨φ,h,σ,is,h',R,rs,⟨vs,e,ei⟩,k⟩:=q;unfold evs at e;obtain⟨⟨x,h1⟩,e1,e⟩:=tN e;unfold evs at e;cases e;refine _L.po_some ha pins s σc H Q I ⟨φ,h,σ,x,_,R,rs,e1,λφ1 H1 w x1 R1 r1=>?_⟩;have hm:=zL ei;cases is with
 |nil=>cases hm
 |cons i r=>
  simp only[List.map_cons,List.cons.injEq]at hm;obtain⟨rfl,_⟩:=hm;cases qB r1;exact⟨i,rfl,k φ1 H1 x1 R1⟩
theorem qB7{lo hi:Option Expr}{al ah:Es}{p2:Pos}(ha:SE X G F ea a)(hl:SO X G F lo al)(hh:SO X G F hi ah):SE X G F (.Subscript ea (.Slice lo hi none p2) pos) (.sl a al ah):=by
 refine qi (_L.pe_slice (_L.SlR.or _L.sl_list _L.sl_tup) ha hl hh) λσc H Q q=>?_;obtain⟨φ,h,σ,v,h',R,rs,e,k⟩:=q;unfold ev at e;obtain⟨⟨x,h1⟩,e1,e⟩:=tN e;obtain⟨⟨l,h2⟩,e2,e⟩:=tN e;obtain⟨⟨u,h3⟩,e3,e⟩:=tN e;cases x with
 |ref p=>
  cases eil:zR l with
  |none=>dsimp only at e;rw[eil]at e;cases e
  |some il=>
   cases eiu:zR u with
   |none=>dsimp only at e;rw[eil,eiu]at e;cases e
   |some iu=>
    dsimp only at e;rw[eil,eiu]at e;dsimp only at e;split at e
    ·rename_i xs ex;cases e;refine⟨φ,h,σ,_,h1,R,rs,e1,λφ1 H1 w x1 R1 r1=>?_⟩;refine⟨φ1,h1,σ,il,h2,R1,rst.mono x1 rs,⟨l,e2,eil⟩,λφ2 H2 x2 R2=>?_⟩;refine⟨φ2,h2,σ,iu,h3,R2,rst.mono (x1.trans x2) rs,⟨u,e3,eiu⟩,λφ3 H3 x3 R3=>?_⟩;obtain⟨p',zs,hp',hs,rs'⟩:=R3.lst ex;obtain⟨q,rfl,hq⟩:=qI (rv.mono (x2.trans x3) r1);rw[hp']at hq;cases hq;exact .inl ⟨_,zs,rfl,hs,λm hm=>k (φ3++[m]) _ _ ((x1.trans (x2.trans x3)).trans ⟨[m],rfl⟩) (R3.newL hm (ZC rs' _ _)) R3.lastRef⟩
    ·split at e
     ·rename_i xs ex;split at e
      ·cases e
      ·rename_i hw;cases e;refine⟨φ,h,σ,_,h1,R,rs,e1,λφ1 H1 w x1 R1 r1=>?_⟩;refine⟨φ1,h1,σ,il,h2,R1,rst.mono x1 rs,⟨l,e2,eil⟩,λφ2 H2 x2 R2=>?_⟩;refine⟨φ2,h2,σ,iu,h3,R2,rst.mono (x1.trans x2) rs,⟨u,e3,eiu⟩,λφ3 H3 x3 R3=>?_⟩;obtain⟨p',zs,hp',hs,rs'⟩:=R3.tup ex;obtain⟨q,rfl,hq⟩:=qI (rv.mono (x2.trans x3) r1);rw[hp']at hq;cases hq;exact .inr ⟨_,zs,rfl,hs,by rw[<-Paired.length rs'];exact hw,λm hm=>k (φ3++[m]) _ _ ((x1.trans (x2.trans x3)).trans ⟨[m],rfl⟩) (R3.newT hm (ZC rs' _ _)) R3.lastRef⟩
     ·cases e
 |_=>cases e
section
open _L
theorem qA2{X:_L.Cx}{e ek:Expr}{te:_L.TE}{tk:_L.TO}{p2 pos:Pos}(he:PE X e te)(hk:PO X (some ek) tk):PE X (.Subscript e (.Slice none none (some ek) p2) pos) (λσ H Q=>te σ H λx H1=>tk σ H1 λo H2=>o=some (-1)/\∃a xs,x=.ref a/\SqL X.K H2 a xs/\∀p,H2 p=none->Q (.ref p) (upd H2 p (.lst xs.reverse))):=by
 intro pins s σ H Q I h;refine Subscript_ (thn (he pins s σ H _ I h) λv s1 ⟨x,H1,I1,r1,q1⟩=>?_);refine wpAny_Slice ?_;rw[evalPart_none];refine vg (vg (thn (hk pins s1 σ H1 _ I1 q1) λvk s3 ⟨o,H3,I3,pk,ho,a,xs,hxa,hx,q⟩=>?_));subst ho;subst hxa;cases r1;have I4:Inv X pins σ H3 { s3 with heap:=s3.heap.push { cls:=.type "slice",data:=.fields #[.none,.none,vk] } }:=I3.kept (t':=s3.toks) λb ob q=>Heap.get?_push_of_some _ q;obtain⟨its,r,ht,hz⟩:=I4.list hx;have hlen:=r.length;show wpAny (model X.prog X.w) X.A (subscriptTail e (.Slice none none (some ek) p2) (.ref a) (.ref s3.heap.objs.size)) (EP X pins σ Q) X.xe { s3 with heap:=s3.heap.push { cls:=.type "slice",data:=.fields #[.none,.none,vk] } };refine tail_any (ops:=[.ref a,.ref s3.heap.objs.size]) (T:="list") ht.isList.typeIs slot_list_getitem.lookup (wpAny_getItem_list_slice ht.isList (Heap.IsSliceOf.new ..) .none .none pk (by decide) ?_ (by rw[wL]<;>omega)) (by with_unfolding_all rfl);rw[PySem.W.krv_pick];refine⟨.ref _,_,I4.laid (t':=s3.toks) (o:=.lst xs.reverse) (λb ob q=>Heap.get?_push_of_some _ q) (wF _) ?_,rfl,q _ (I4.hok.fresh (wF _))⟩;exact⟨by rw[List.length_reverse];exact hz,_,0,r.reverse,Heap.get?_push_size _ rfl⟩
end
theorem ZI{φ:List Addr}:∀{xs ys:List V},rvs φ xs ys->rvs φ xs.reverse ys.reverse
 |_,_,.nil=>.nil
 |_,_,.cons r t=>by rw[vE,vE];exact qP (ZI t) (.cons r .nil)
theorem o8{ek:Expr}{p2:Pos}(ha:SE X G F ea a)(hk:SO X G F (some ek) (.cons (.cst (.int (-1))) .nil)):SE X G F (.Subscript ea (.Slice none none (some ek) p2) pos) (.rev a):=by
 refine qi (qA2 ha hk) λσc H Q q=>?_;obtain⟨φ,h,σ,v,h',R,rs,e,k⟩:=q;unfold ev at e;obtain⟨⟨x,h1⟩,e1,e⟩:=tN e;replace e:=qt e;obtain⟨p,rfl,e⟩:=e;split at e
 ·rename_i xs ex;cases e;refine⟨φ,h,σ,_,h1,R,rs,e1,λφ1 H1 w x1 R1 r1=>?_⟩;refine⟨φ1,h1,σ,[-1],h1,R1,rst.mono x1 rs,⟨[.int (-1)],by unfold evs ev;rfl,rfl⟩,λφ2 H2 x2 R2=>⟨rfl,?_⟩⟩;obtain⟨p',zs,hp',hs,rs'⟩:=R2.lst ex;obtain⟨q,rfl,hq⟩:=qI (rv.mono x2 r1);rw[hp']at hq;cases hq;exact⟨_,zs,rfl,hs,λm hm=>k (φ2++[m]) _ _ ((x1.trans x2).trans ⟨[m],rfl⟩) (R2.newL hm (ZI rs')) R2.lastRef⟩
 ·cases e
theorem qB2{p p3:Pos}{n:Nat}:SE X G F (.UnaryOp .USub (.Constant (.int 1) n p) p3) (.cst (.int (-1))):=by
 refine qi (y6 (G:=G) (F:=F) (a:=.cst (.int 1)) Q0) λσc H Q q=>?_;obtain⟨φ,h,σ,v,h',R,rs,e,k⟩:=q;refine⟨φ,h,σ,v,h',R,rs,?_,k⟩;unfold ev at e ⊢;unfold ev;exact e
theorem qCt{apos cpos:Pos}(hbase:attributeBase ea "append" X.env (eval ea X.env)=eval ea X.env)(hline:(apos.endLine==cpos.line)=true)(hn:qN eb=true)(ha:SE X G F ea a)(hb:SE X G F eb b):
  SE X G F (.Call (.Attribute ea "append" apos) [eb] [] cpos) (.app a b):=by
 refine qi (_L.pe_bm PySem.F.plainAttrs_list PySem.F.slot_list_append PySem.F.type_list_append _L.mt_append ha (_L.pa_cons hb _L.pa_nil (qC hn)) hbase (by rw[qC hn];rfl) hline (qC hn) rfl) λσc H Q q=>?_;obtain⟨φ,h,σ,v,h',R,rs,e,k⟩:=q;unfold ev at e;obtain⟨⟨x,h1⟩,e1,e⟩:=tN e;dsimp only at e;split at e
 ·rename_i p;split at e
  ·rename_i ys ey;obtain⟨⟨y,h2⟩,e2,e⟩:=tN e;dsimp only at e;split at e
   ·rename_i xs ex;split at e
    ·rename_i hl;cases e;refine⟨φ,h,σ,_,h1,R,rs,e1,λφ1 H1 w x1 R1 r1=>?_⟩;obtain⟨p1,zs1,hp1,hs1,_⟩:=R1.lst ey;obtain⟨q,rfl,hq⟩:=qI r1;rw[hp1]at hq;cases hq;refine⟨.inl ⟨rfl,_,hs1⟩,φ1,h1,σ,y,h2,R1,rst.mono x1 rs,e2,λφ2 H2 yc x2 R2 r2=>?_⟩;obtain⟨q1,p2,zs2,hp2,hH2,rs2⟩:=R2.mut ex;have:=x2.get hp1;rw[hp2]at this;cases this;refine⟨_,zs2,yc,rfl,rfl,hH2,?_,k φ2 _ _ (x1.trans x2) (R2.set q1 hp2 (qP rs2 (.cons r2 .nil))) trivial⟩;rw[<-Paired.length rs2];exact wq hl v8
    ·cases e
   ·cases e
  ·cases e
 ·cases e
theorem Rl.same{K:PySem.W.Frag}{G φ:List Addr}{h:AH}{H H':Hp}(R:Rl K G φ h H)(s:QY H H'):Rl K G φ h H':=⟨R.len,R.glob,λi o a e1 e2=>(R.obj i o a e1 e2).keep (.refl _) s,R.inj⟩
theorem JA{φ:List Addr}:∀{xs:List V},xs.all flat=true->rvs φ xs xs
 | [],_=>.nil
 |x::xs,h=>by
  simp only[List.all_cons,wB]at h;refine .cons ?_ (JA h.2);cases x<;>first|rfl|exact trivial|(cases h.1)
theorem R7:qj X (.type "range") (λxs H Q=>∃j:Int,xs=[.int j]/\∀p,H p=none->Q (.ref p) (upd H p (.rng 0 j))):=by
 intro pins s σ H xs us Q I r ⟨j,e,q⟩;subst e;obtain⟨u,rfl,ru⟩:=_L.vals1 r;obtain⟨t,rfl⟩:=ru;refine call_range_1 ⟨.ref s.heap.objs.size,_,I.laid (λ_ _ q=>Heap.get?_push_of_some _ q) (wF _) ?_,rfl,q _ (I.hok.fresh (wF _))⟩;exact⟨_,_,_,Heap.get?_push_size _ rfl⟩
theorem Ze{P:Nat->V}:∀{n:Nat}{acc:List Value},acc.length=n->(∀(j:Nat) v,acc[j]?=some v->RelV (P j) v)->Vals ((List.range n).map P) acc:=by
 intro n
 induction n with
 |zero=>intro acc hl _;cases acc with|nil=>exact .nil|cons _ _=>simp at hl
 |succ n ih=>
  intro acc hl ha;have hne:acc≠[]:=by intro z;subst z;simp at hl
  rw[List.range_succ,List.map_append,<-List.dropLast_concat_getLast hne];have hd:acc.dropLast.length=n:=by rw[List.length_dropLast,hl];rfl
  refine qP (ih hd λj v e=>ha j v ?_) (.cons (ha n _ ?_) .nil)
  ·rw[<-List.dropLast_concat_getLast hne,wD (wC.mp e).1];exact e
  ·rw[wE (by omega),List.getLast_eq_getElem];congr 1;simp[hl]
theorem ZW(hc:X.calm=true):qj X (.type "list") (λxs H Q=>∃p,∃j:Int,xs=[.ref p]/\H p=some (.rng 0 j)/\(-1000000<=j/\j<=100000)/\∀l,H l=none->Q (.ref l) (upd H l (.lst (jG 0 j.toNat)))):=by
 intro pins s σ H xs us Q I r ⟨p,j,e,hp,hj,q⟩;subst e;obtain⟨u,rfl,ru⟩:=_L.vals1 r;cases ru;obtain⟨t,u,v,hr⟩:=I.hok p _ hp;have hn:Builtin.Range.rangeSize 0 j 1=((j.toNat:Nat):Int):=by rw[rangeSize_one];split<;>omega
 refine call_list_range (I.ok.hd hc) hr (small_one (by omega) (by omega) (by omega) (by omega)) hn (by omega) λh' tk acc' c' hk hS hI=>?_;refine⟨.ref s.heap.objs.size,_,I.laid (t':=tk) hk (wF _) ?_,rfl,q _ (I.hok.fresh (wF _))⟩;obtain⟨i1,i2⟩:=hI;refine⟨?_,acc'.toList,c',Ze (by simpa using i1) λk v e=>?_,by simpa using hS⟩
 ·have:=QW;unfold lim at this;rw[jG,wG,List.length_range];omega
 ·obtain⟨t',rfl⟩:=i2 k v (by simpa using e);exact⟨t',by rw[Int.mul_one]⟩
theorem qAG{p p2 pos2:Pos}(hc:X.calm=true)(hg:_L.Gl X "list")(hm:X.mg "list"=none)(hg2:_L.Gl X "range")(hm2:X.mg "range"=none)(hn:qN ea=true)(ha:SE X G F ea a):
  SE X G F (.Call (.Name "list" p) [.Call (.Name "range" p2) [ea] [] pos2] [] pos) (.lrng a):=by
 refine qi (_L.pe_callTy (ZW hc) hg hm PyProof.Rows.boot_list (_L.pa_cons (_L.pe_callTy R7 hg2 hm2 PyProof.Rows.boot_range (_L.pa_cons ha _L.pa_nil (qC hn)) (by decide) (by decide) (qC hn) rfl) _L.pa_nil rfl) (by decide) (by decide) rfl rfl) λσc H Q q=>?_;obtain⟨φ,h,σ,v,h',R,rs,e,k⟩:=q;unfold ev at e;obtain⟨⟨x,h1⟩,e1,e⟩:=tN e;refine⟨φ,h,σ,x,h1,R,rs,e1,λφ1 H1 w x1 R1 r1=>?_⟩;cases x with
 |int j=>
  dsimp only at e;split at e
  ·rename_i hj;cases e;cases qB r1;refine⟨j,rfl,λp hp=>⟨p,j,rfl,qF,hj,λl hl=>?_⟩⟩;have hlp:l≠p:=by rintro rfl;rw[qF]at hl;cases hl
   have R2:Rl X.K G φ1 h1 (upd H1 p (.rng 0 j)):=R1.same (je hp);exact k (φ1++[l]) _ _ (x1.trans ⟨[l],rfl⟩) (R2.newL hl (JA (by simp[jG,flat]))) R2.lastRef
  ·cases e
 |_=>cases e
theorem ZE{h:AH}{p:Nat}{xs:List V}(ex:qo h p=some xs):qH h p=some xs:=by
 unfold qo at ex;unfold qH;split at ex
 ·rename_i e0;cases ex;rw[e0]
 ·cases ex
end
theorem qAi{φ:List Addr}{v w w':V}(a:rv φ v w)(b:rv φ v w'):w=w':=by
 cases v with
 |ref i=>
  obtain⟨x,rfl,e1⟩:=qI a;obtain⟨y,rfl,e2⟩:=qI b;rw[e1]at e2;cases e2;rfl
 |int i=>rw[qB a,qB b]
 |bl i=>rw[zE a,zE b]
 |str i=>rw[zG a,zG b]
 |non=>rw[qp a,qp b]
 |_=>cases w<;>cases a
theorem QO{φ:List Addr}:∀{vs ws ws':List V},rvs φ vs ws->rvs φ vs ws'->ws=ws'
 |_,_,_,.nil,.nil=>rfl
 |_,_,_,.cons a r,.cons b s=>by rw[qAi a b,QO r s]
theorem Rl.pre{K:PySem.W.Frag}{G φ φ':List Addr}{h h2:AH}{H0 H1:Hp}(R0:Rl K G φ h H0)(R1:Rl K G φ' h2 H1)(x:Ext φ φ')(ht:h2.take h.length=h):Rl K G φ h H1:=by
 have up:∀{i:Nat}{o:O},h[i]?=some o->h2[i]?=some o:=λ{i o} e=>by
  have hi:=(wC.mp e).1;rw[<-ht,vH hi]at e;exact e
 refine⟨R0.len,R0.glob,λi o a e ea=>?_,λi j u y a m1 m2 e1 e2 e3 e4=>R1.inj i j u y a m1 m2 (up e1) (up e2) (x.get e3) (x.get e4)⟩;have r1:=R1.obj i o a (up e) (x.get ea);have r0:=R0.obj i o a e ea
 match o,r0,r1 with
 | .lst false xs,⟨ys,_,p⟩,⟨ys',e',p'⟩=>rw[QO p' (rvs.mono x p)]at e';exact⟨ys,e',p⟩
 | .lst true xs,⟨ys,_,p⟩,⟨ys',e',p'⟩=>rw[QO p' (rvs.mono x p)]at e';exact⟨ys,e',p⟩
 | .tup xs,⟨ys,_,p⟩,⟨ys',e',p'⟩=>rw[QO p' (rvs.mono x p)]at e';exact⟨ys,e',p⟩
 | .ob (.dct _),_,e'=>exact e'
 | .ob (.exn _),_,e'=>exact e'
open _L (It Zk Qs)
abbrev Zf(h:Heap)(z ti to:Addr)(f0 f1:Value):Prop:=
 h.get? z=some { cls:=.type "zip",dict:=none,data:=.fields #[f0,f1,.bool false,.ref ti,.ref to],slots:=#[] }
section
variable{P:Program}{w:World}{A:Around}{E:Value->Shared->Prop}{s:Shared}{z ti to i1 i2 a b T:Addr}{k:Nat}{xs ys:Array Value}{x y:Value}{oT:Obj}{f1:Bool}
abbrev Kd(z i1 i2:Addr)(h g:Heap):Prop:=∀c o,c∉[z,i1,i2]->h.get? c=some o->g.get? c=some o
end
section
variable{P:Program}{w:World}{K:Type}[DecidableEq K]{knd:KeyKind P w K}{A:Around}{E:Value->Shared->Prop}{z ti to i1 i2 a b d:Addr}{xs ys:Array Value}
def Left(knd:KeyKind P w K)(xs ys:Array Value)(k:Nat)(L:List (K×Value)):Prop:=
 (∀j p,L[j]?=some p->∃x,xs[k+j]?=some x/\knd.is p.1 x=true/\ys[k+j]?=some p.2)/\(xs[k+L.length]?=none\/ys[k+L.length]?=none)
theorem Left.next{k:Nat}{p:K×Value}{L:List (K×Value)}(h:Left knd xs ys k (p::L)):(∃x,xs[k]?=some x/\knd.is p.1 x=true/\ys[k]?=some p.2)/\Left knd xs ys (k+1) L:=by
 refine⟨by simpa using h.1 0 p rfl,λj q e=>?_,?_⟩
 ·have:=h.1 (j+1) q (by simpa using e);rw[show k+(j+1)=k+1+j by omega]at this;exact this
 ·have:=h.2;rw[List.length_cons,show k+(L.length+1)=k+1+L.length by omega]at this;exact this
end
theorem E7(is:List Int):Y8 is=(firstMet (λi=>is.getD i 0) is.length).length:=by
 unfold Y8 firstMet;congr 2;apply va
 ·simp
 ·intro i h1 h2;simp[wg,h1]
def qDc(P:Program)(w:World)(a:Addr)(n:Nat):Heap->Prop:=λh=>∃o,∃S:Int->Bool,h.get? a=some o/\o.SetObjOf (intKind P w) S n
section
variable{X:Cx}
theorem W6(hc:X.calm=true):qj X (.type "set") (λxs H Q=>∃p,∃is:List Int,xs=[.ref p]/\SqL X.K H p (is.map V.int)/\is.length<1000/\∀l,H l=none->Q (.ref l) (upd H l (.ext (qDc X.prog X.w l (Y8 is))))):=by
 intro pins s σ H xs us Q I r ⟨p,is,e,hp,hj,q⟩;subst e;obtain⟨u,rfl,ru⟩:=_L.vals1 r;cases ru;obtain⟨its,rv',pl,_⟩:=I.list hp;have hi:IntsAre its is:=_L.intsAre_of rv';have hl:its.length=is.length:=IntsAre.length hi;refine call_set_list (items:=its.toArray) (ns:=is) (I.ok.hd hc) pl.isList (by simpa using hi) (by simp[scanBound];omega) λh' tk hS hk=>?_;obtain⟨o,ho,hso⟩:=hS.objOf;refine⟨.ref s.heap.objs.size,_,I.laid (t':=tk) (λb o' e=>hk b o' (Heap.lt_size e) e) (wF _) ?_,rfl,q _ (I.hok.fresh (wF _))⟩;have e:Y8 is=(firstMet (λi=>is.getD i 0) its.toArray.size).length:=by rw[E7,wL,hl]
 rw[e];exact⟨⟨o,_,ho,hso⟩,⟨o,ho⟩,λh1 h2 ⟨o,S,q1,q2⟩ k=>⟨o,S,k _ q1,q2⟩⟩
theorem L0:qj X (.builtin "len") (λxs H Q=>∃p n,xs=[.ref p]/\H p=some (.ext (qDc X.prog X.w p n))/\n<1000/\Q (.int n) H):=by
 intro pins s σ H xs us Q I r ⟨p,n,e,hp,hn,q⟩;subst e;obtain⟨u,rfl,ru⟩:=_L.vals1 r;cases ru;obtain⟨⟨o,S,ho,hex,es,ep,t,hd,_,_,hz,hf⟩,_⟩:=I.hok p _ hp;subst hz;exact call_len_set ho hex hd hf (by omega) ⟨.int _,H,(I.tok _).tok _,⟨_,rfl⟩,q⟩
theorem qBF(is:List Int):Y8 is<=is.length:=by rw[E7];exact firstMet_length_le _ _
end
section
variable{X:Cx}{G:List Addr}{F:Nat->List V->AH->RV}{a:E}{ea:Expr}{pos:Pos}
theorem qBH{p p2 pos2:Pos}(hc:X.calm=true)(hg:_L.Gl X "len")(hm:X.mg "len"=none)(hg2:_L.Gl X "set")(hm2:X.mg "set"=none)(hn:qN ea=true)(ha:SE X G F ea a):
  SE X G F (.Call (.Name "len" p) [.Call (.Name "set" p2) [ea] [] pos2] [] pos) (.nset a):=by
 refine qi (_L.pe_callB L0 hg hm PySem.boot_len (_L.pa_cons (_L.pe_callTy (W6 hc) hg2 hm2 PyProof.Rows.boot_set (_L.pa_cons ha _L.pa_nil (qC hn)) (by decide) (by decide) (qC hn) rfl) _L.pa_nil rfl) (by decide) (by decide) rfl rfl) λσc H Q q=>?_;obtain⟨φ,h,σ,v,h',R,rs,e,k⟩:=q;unfold ev at e;obtain⟨⟨x,h1⟩,e1,e⟩:=tN e;refine⟨φ,h,σ,x,h1,R,rs,e1,λφ1 H1 w x1 R1 r1=>?_⟩;dsimp only at e;split at e
 ·rename_i q0;split at e
  ·rename_i ys ey;split at e
   ·rename_i is ei;split at e
    ·rename_i hl;cases e;obtain⟨p',rfl,hp⟩:=qI r1;obtain⟨p'',zs,hp',hs,rs'⟩:=R1.lst ey;rw[hp]at hp';cases hp';have hm':=zL ei;subst hm';have hz:=zI (zP is) rs';subst hz;have:=qBF is;refine⟨p',is,rfl,hs,hl,λl hl'=>⟨l,Y8 is,rfl,qF,by omega,?_⟩⟩;have R2:=R1.same (je (o:=.ext (qDc X.prog X.w l (Y8 is))) hl');exact k φ1 _ _ x1 R2 rfl
    ·cases e
   ·cases e
  ·cases e
 ·cases e
end
def QM(xs:Array Nat):Prop:=xs.toList.Pairwise (·<·)
def qDT(xs:Array Nat)(j r:Nat):Prop:=r<=xs.size/\(∀i,i<r->xs.getD i 0<j)/\∀i,r<=i->i<xs.size->j<=xs.getD i 0
theorem jV{xs:Array Nat}(h:QM xs){i j:Nat}(hij:i<j)(hj:j<xs.size):xs.getD i 0<xs.getD j 0:=by
 have hi:i<xs.size:=by omega
 have:=List.pairwise_iff_getElem.mp h i j (by simpa using hi) (by simpa using hj) hij;simpa [Array.getD,hi,hj] using this
theorem qCi{xs:Array Nat}{j:Nat}(h:QM xs):∀(fuel lo hi:Nat),lo<=hi->hi<=xs.size->hi-lo<=fuel->(∀i,i<lo->xs.getD i 0<j)->(∀i,hi<=i->i<xs.size->j<=xs.getD i 0)->qDT xs j (SetTable.below.go xs j fuel lo hi):=by
 intro fuel
 induction fuel with
 |zero=>
  intro lo hi h1 h2 h3 h4 h5;have:lo=hi:=by omega
  subst this;exact⟨h2,h4,h5⟩
 |succ fuel ih=>
  intro lo hi h1 h2 h3 h4 h5;unfold SetTable.below.go;split
  ·rename_i hlt;dsimp only;have gd:xs.getD ((lo+hi) / 2) j=xs.getD ((lo+hi) / 2) 0:=by
    have:(lo+hi) / 2<xs.size:=by omega
    simp[Array.getD,this]
   rw[gd];split
   ·rename_i q;refine ih _ _ (by omega) h2 (by omega) (λi hi'=>?_) h5;rcases Nat.lt_or_ge i ((lo+hi) / 2) with z|z
    ·exact wq (jV h z (by omega)) q
    ·have:i=(lo+hi) / 2:=by omega
     subst this;exact q
   ·rename_i q;refine ih _ _ (by omega) (by omega) (by omega) h4 (λi hi' hs=>?_);rcases Nat.lt_or_ge ((lo+hi) / 2) i with z|z
    ·exact wM (Nat.le_of_not_lt q) (wo (jV h z hs))
    ·have:i=(lo+hi) / 2:=by omega
     subst this;exact Nat.le_of_not_lt q
  ·have:lo=hi:=by omega
   subst this;exact⟨h2,h4,h5⟩
theorem Qf{xs:Array Nat}{j:Nat}(h:QM xs):qDT xs j (SetTable.below xs j):=
 qCi h _ _ _ (wu _) (wF _) (by omega) (λi hi=>absurd hi (Nat.not_lt_zero _)) (λi h1 h2=>absurd h2 (by omega))
theorem G9{xs:Array Nat}{j r r':Nat}(a:qDT xs j r)(b:qDT xs j r'):r=r':=by
 rcases Nat.lt_trichotomy r r' with z|z|z
 ·have h1:=b.2.1 r z;have h2:=a.2.2 r (wF _) (by have:=b.1;omega);omega
 ·exact z
 ·have h1:=a.2.1 r' z;have h2:=b.2.2 r' (wF _) (by have:=a.1;omega);omega
theorem L9{xs:Array Nat}{i:Nat}(h:QM xs)(hi:i<xs.size):SetTable.below xs (xs.getD i 0+1)=i+1:=by
 refine G9 (Qf h) ⟨hi,λk hk=>?_,λk hk hs=>jV h (by omega) hs⟩;rcases Nat.lt_or_ge k i with z|z
 ·have:=jV h z hi;omega
 ·have:k=i:=by omega
  subst this;omega
theorem M8{xs:Array Nat}(h:QM xs):SetTable.below xs 0=0:=G9 (Qf h) ⟨wu _,λi hi=>absurd hi (Nat.not_lt_zero _),λ_ _ _=>wu _⟩
theorem Y6{xs:Array Nat}{j:Nat}(h:QM xs)(hn:xs[SetTable.below xs j]?≠some j):QM (SetTable.insertAt xs (SetTable.below xs j) j):=by
 obtain⟨c1,c2,c3⟩:=Qf (j:=j) h;generalize SetTable.below xs j=p at *;unfold QM at *;rw[SetTable.toList_insertAt];have hg:∀i (hi:i<xs.size),xs.getD i 0=xs.toList[i]'(by simpa using hi):=λi hi=>by simp[Array.getD,hi]
 rw[<-List.take_append_drop p xs.toList,List.pairwise_append]at h;obtain⟨a1,a2,a3⟩:=h;have lo:∀x∈xs.toList.take p,x<j:=λx hx=>by
  obtain⟨i,hi,rfl⟩:=vF.mp hx;rw[vQ]at hi;have:=c2 i (by omega);rw[hg i (by simp at hi;omega)]at this;simpa using this
 have hi:∀x∈xs.toList.drop p,j<x:=λx hx=>by
  obtain⟨i,hi,rfl⟩:=vF.mp hx;rw[vI]at hi;have hs:p+i<xs.size:=by simp at hi;omega
  have ge:∀i,p<=i->i<xs.size->j<=xs.getD i 0:=c3;have h0:xs.getD p 0≠j:=λe=>hn (by
   have hp:p<xs.size:=by omega
   rw[Array.getElem?_eq_getElem hp];rw[hg p hp]at e;simpa using e)
  have h1:j<xs.getD p 0:=Nat.lt_of_le_of_ne (ge p (wF _) (by omega)) (Ne.symm h0);have h2:j<xs.getD (p+i) 0:=by
   rcases Nat.eq_zero_or_pos i with z|z
   ·subst z;exact h1
   ·have q:=List.pairwise_iff_getElem.mp a2 0 i (by rw[vI];simp;omega) (by rw[vI];simp;omega) z;rw[hg (p+i) hs];rw[hg p (by omega)]at h1;simp at q h1 ⊢;omega
  rw[hg (p+i) hs]at h2;simpa using h2
 rw[List.pairwise_append];refine⟨a1,vD.mpr ⟨hi,a2⟩,λx hx y hy=>?_⟩;rcases wI.mp hy with rfl|hy
 ·exact lo x hx
 ·exact a3 x hx y hy
theorem J8(n:Nat):QM (Array.range n):=by
 unfold QM;rw[Array.toList_range];exact List.pairwise_lt_range
structure zt(t:SetTable)(b:Bool):Prop where
 rise:QM t.place
 dum:t.dummies=#[]
 led:b=false->t.led=true
theorem K7{b led:Bool}(h:b=false->led=true):zt (.fresh 0 0 led) b:=⟨.nil,rfl,h⟩
theorem N3{t:SetTable}{b p:Bool}(g:zt t b):zt { t with plain:=p } b:=⟨g.rise,g.dum,g.led⟩
theorem zW{t:SetTable}{b:Bool}(g:zt t b)(n:Nat):zt (t.standIn n) b:=⟨J8 n,rfl,g.led⟩
theorem qBC{t:SetTable}{b:Bool}(g:zt t b)(n:Nat):zt (t.orStandIn n) b:=by
 unfold SetTable.orStandIn;split
 ·exact g
 ·exact zW g n
theorem U1{j:Nat}:SetTable.has #[] j=false:=by simp[SetTable.has]
theorem Jw{t:SetTable}{f:Nat->Int}{h:Int}(hd:t.dummies=#[]):∀(fuel:Nat) (p:SetTable.Probe){j:Nat}{d:Option Nat},p.dummy=none->SetTable.probe.go t f h fuel p=some (.empty j d)->d=none/\t.slot j=.empty:=by
 intro fuel
 induction fuel with
 |zero=>intro p j d _ e;cases e
 |succ fuel ih=>
  intro p j d hp e;have ad:(t.advance p).dummy=none:=by
   unfold SetTable.advance;split
   ·exact hp
   ·exact hp
  unfold SetTable.probe.go at e;split at e
  ·rename_i q;cases e;exact⟨hp,q⟩
  ·rename_i q;unfold SetTable.slot at q;dsimp only at q;rw[hd,U1]at q;split at q
   ·cases q
   ·simp at q
  ·split at e
   ·cases e
   ·exact ih _ ad e
theorem Jq{t:SetTable}{b:Bool}(g:zt t b)(es:Array (Int×Value))(h:Int)(x:Value):zt (layNew t es h x).2.1 b:=by
 unfold layNew;split
 ·rename_i slot wd e;dsimp only;refine qBC ?_ _;unfold SetTable.freeSlot at e;split at e
  ·rename_i j d ep;obtain⟨rfl,hs⟩:=Jw g.dum _ _ (by rfl) ep;cases e;unfold SetTable.put;dsimp only;refine⟨Y6 g.rise λq=>?_,?_,g.led⟩
   ·unfold SetTable.slot at hs;dsimp only at hs;rw[show (none.getD j:Nat)=j from rfl]at q;rw[q]at hs;simp at hs
   ·dsimp only;rw[g.dum,U1];rfl
  ·cases e
 ·exact zW g _
theorem R9{mask finger moves:Nat}{led plain b:Bool}{hs:Array Int}{t:SetTable}{o:Array Nat}(hl:b=false->led=true)(e:SetTable.laid mask finger moves led plain hs=some (t,o)):zt t b:=by
 unfold SetTable.laid at e;obtain⟨ow,_,e⟩:=wH.mp e;cases e;refine⟨?_,rfl,hl⟩;unfold QM;dsimp only;rw[List.map_filterMap];have:List.Sublist (List.filterMap (λx=>Option.map (λx=>x.1) (Option.map (λk=>(x,k)) (ow.getD x none))) (List.range (mask+1))) (List.range (mask+1)):=by
  generalize List.range (mask+1)=l
  induction l with
  |nil=>exact .slnil
  |cons a l ih=>
   rw[vS];cases ow.getD a none with
   |none=>exact ih.cons a
   |some k=>exact ih.cons₂ a
 exact List.pairwise_lt_range.sublist this
theorem L4{t:SetTable}{b:Bool}(g:zt t b)(es:Array (Int×Value))(w:Nat):zt (relayAll t es w).2.1 b:=by
 unfold relayAll;split
 ·rename_i t' o e;dsimp only;split
  ·exact R9 g.led e
  ·exact zW g _
 ·exact zW g _
def SetG(P:Program)(w:World)(b:Bool)(h:Heap)(a:Addr)(S:Int->Bool)(n:Nat):Prop:=
 ∃o es ep t,h.get? a=some o/\o.ExactSet/\o.data=.set es ep t/\ElemsOf (intKind P w) es.toList/\(∀k,S k=true↔∃e∈es.toList,(intKind P w).is k e.2=true)/\es.size<scanBound/\t.fits es.size=true/\es.size=n/\zt t b
section
variable{P:Program}{w:World}{A:Around}{E:Value->Shared->Prop}{s:Shared}{b:Bool}{a:Addr}{S:Int->Bool}{n:Nat}
theorem SetG.eq{h:Heap}{S':Int->Bool}{n':Nat}(g:SetG P w b h a S n)(e:∀k,S k=S' k)(en:n=n'):SetG P w b h a S' n':=by
 have:S=S':=funext e;subst this;subst en;exact g
theorem qE7{h:Heap}{o:Obj}{es es':Array (Int×Value)}{ep:Nat}{t t':SetTable}(ho:h.get? a=some o)(hx:o.ExactSet)(hd:o.data=.set es ep t)(h1:ElemsOf (intKind P w) es'.toList)(h2:∀k,S k=true↔∃e∈es'.toList,(intKind P w).is k e.2=true)(h3:es'.size<scanBound)(h4:t'.fits es'.size=true)(g:zt t' b):
  (h.update a (Obj.putSet es' t')).get? a=some { o with data:=.set es' (ep+1) t' }/\SetG P w b (h.update a (Obj.putSet es' t')) a S es'.size:=by
 have z:=(SetOf_store (knd:=intKind P w) ho hx hd h1 h2 h3 h4).1;exact⟨z,_,es',ep+1,t',z,hx,rfl,h1,h2,h3,h4,rfl,g⟩
theorem O8{gw:Bool->Sem Unit}(hgw:∀(c:Bool) (s1:Shared) (Q':Unit->Shared->Prop),Q' () s1->wpAny (model P w) A (gw c) Q' E s1)
  {o:Obj}{es es1:Array (Int×Value)}{ep:Nat}{t t2:SetTable}(ho:s.heap.get? a=some o) (hx:o.ExactSet) (hd:o.data=.set es ep t)
  (h1:ElemsOf (intKind P w) es1.toList) (h2:∀k,S k=true↔∃e∈es1.toList,(intKind P w).is k e.2=true) (h3:es1.size<scanBound) (h4:t2.fits es1.size=true) (g:zt t2 b){dm:Bool}{R:Option Bool->Shared->Prop}
  (fin:∀h',Heap.SameBut a s.heap h'->SetG P w b h' a S es1.size->R (some true) { s with heap:=h' }):
  wpAny (model P w) A (do
    storeSet a es1 t2
    if (!dm&&t2.tooFull)=true then do
      gw (relayAll t2 es1 (SetTable.grown es1.size)).2.2
      storeSet a (relayAll t2 es1 (SetTable.grown es1.size)).1 (relayAll t2 es1 (SetTable.grown es1.size)).2.1
      pure (some true)
     else pure (some true)) R E s:=by
 obtain⟨g1,G1⟩:=qE7 (P:=P) (w:=w) (b:=b) (S:=S) ho hx hd h1 h2 h3 h4 g;have k1:=Heap.SameBut.update s.heap a (Obj.putSet es1 t2);refine vf (wpAny_storeSet_of ho hd ?_ (fits_of_scanBound h3));split
 ·have pm:=relayAll_perm t2 es1 (SetTable.grown es1.size);have ft:=relayAll_fits t2 es1 (SetTable.grown es1.size);have gd:=L4 g es1 (SetTable.grown es1.size);generalize relayAll t2 es1 (SetTable.grown es1.size)=r at pm ft gd ⊢;obtain⟨es2,t3,gv⟩:=r;dsimp only at pm ft gd ⊢;have sz:es2.size=es1.size:=by rw[<-wZ,pm.length_eq,wZ]
  have h3':es2.size<scanBound:=by rw[sz];exact h3
  refine vf (hgw _ _ _ (vf (wpAny_storeSet_of g1 rfl ?_ (fits_of_scanBound h3'))));obtain⟨_,G2⟩:=qE7 (P:=P) (w:=w) (b:=b) (S:=S) g1 hx rfl (h1.perm pm) (λk=>(h2 k).trans ⟨λ⟨e,q,z⟩=>⟨e,pm.mem_iff.mpr q,z⟩,λ⟨e,q,z⟩=>⟨e,pm.mem_iff.mp q,z⟩⟩) h3' ft gd;exact vg (fin _ (k1.trans (Heap.SameBut.update _ a _)) (by rw[<-sz];exact G2))
 ·exact vg (fin _ k1 G1)
theorem d3{k:Int}{x:Value}{Q:Bool->Shared->Prop}(hkey:(intKind P w).is k x=true)(hsc:x.scannable=true)(g:SetG P w b s.heap a S n)(room:n+1<scanBound)
  (fin:∀h',Heap.SameBut a s.heap h'->SetG P w b h' a (λk'=>S k'||decide (k'=k)) (if S k then n else n+1)->Q (!S k) { s with heap:=h' }):
  wpAny (model P w) A (setAddHashed a x ((intKind P w).hash k)) Q E s:=by
 obtain⟨o,es,ep,t,ho,hx,hd,hel,hmem,hb,hf,hn,gd⟩:=g;unfold setAddHashed setAddHashedIn;refine wpAny_holding (vf (wpAny_setState_of ho hd hf ?_));dsimp only;rw[byScan_of hsc hb hel,if_pos rfl];unfold setAddByScan;refine vf (vf (wpAny_rule (vf (wpAny_setScan_of hkey ho hd hf hel ?_))));cases hr:List.findIdx? (λe=>(intKind P w).is k e.2) es.toList with
 |some j=>
  dsimp only;obtain⟨hj,pj,_⟩:=List.findIdx?_eq_some_iff_getElem.mp hr;have yes:S k=true:=(hmem k).mpr ⟨es.toList[j],wn hj,pj⟩;have f:=fin s.heap (Heap.SameBut.refl a s.heap) ⟨o,es,ep,t,ho,hx,hd,hel,λk'=>by
   rw[wv,vj,<-hmem k'];exact⟨λq=>q.elim id (λe=>e ▸ yes),.inl⟩,hb,hf,by rw[yes];exact hn,gd⟩
  rw[yes]at f;exact vg (vg (by cases s;exact f))
 |none=>
  dsimp only;have no:S k=false:=by
   cases q:S k with
   |false=>rfl
   |true=>
    obtain⟨e,he,z⟩:=(hmem k).mp q;have:=List.findIdx?_eq_none_iff.mp hr e he;rw[z]at this;cases this
  have pm:=layNew_perm t es ((intKind P w).hash k) x;have ft:=layNew_fits t es ((intKind P w).hash k) x;have gl:=Jq gd es ((intKind P w).hash k) x;generalize layNew t es ((intKind P w).hash k) x=r at pm ft gl ⊢;obtain⟨es1,t1,dm,gv⟩:=r;dsimp only at pm ft gl ⊢;rw[Array.toList_push]at pm;have sz:es1.size=n+1:=by rw[<-wZ,pm.length_eq,wX,wZ,hn];rfl
  have h3:es1.size<scanBound:=by rw[sz];exact room
  have gw:∀(c:Bool){s1:Shared}{Q':Unit->Shared->Prop},Q' () s1->wpAny (model P w) A (match c with|true=>rule "set.scan.the-table-gave-way" | false=>pure ()) Q' E s1:=λc s1 Q' q=>by
   cases c
   ·exact vg q
   ·exact wpAny_rule q
  refine vf (gw _ ?_);have e1:=(hel.push hkey hsc).perm pm;have e2:=mem_push_iff hkey hmem pm;have ends:∀h',Heap.SameBut a s.heap h'->SetG P w b h' a (λk'=>S k'||decide (k'=k)) es1.size->Q true { s with heap:=h' }:=λh' k1 G=>by
   have:=fin h' k1;rw[no]at this;rw[sz]at G;exact this G
  split
  ·refine vf ?_;rw[hashByValue_scannable 8 hsc];refine vg (O8 (P:=P) (w:=w) (b:=b) ?_ ho hx hd e1 e2 h3 ?_ ?_ λh' k1 G=>by dsimp only;exact vg (ends h' k1 G))
   ·intro c s1 Q' q;cases c
    ·exact vg q
    ·exact wpAny_rule q
   ·split
    ·exact ft
    ·exact SetTable.fits_plain_off ft
   ·split
    ·exact gl
    ·exact N3 gl
  ·refine vf (vg ?_);rw[if_pos rfl];refine O8 (P:=P) (w:=w) (b:=b) ?_ ho hx hd e1 e2 h3 ft gl λh' k1 G=>by dsimp only;exact vg (ends h' k1 G)
   intro c s1 Q' q;cases c
   ·exact vg q
   ·exact wpAny_rule q
end
noncomputable def jK(w:World):Bool:=w.params.followText "set-order"
section
variable{P:Program}{w:World}{A:Around}{E:Value->Shared->Prop}{s:Shared}{b:Bool}
theorem SetG.at{h h':Heap}{a:Addr}{S:Int->Bool}{n:Nat}(g:SetG P w b h a S n)(e:∀o,h.get? a=some o->h'.get? a=some o):SetG P w b h' a S n:=
 let ⟨o,es,ep,t,h1,r⟩:=g;⟨o,es,ep,t,e o h1,r⟩
noncomputable def Y0(val:Nat->Int)(i:Nat):Int->Bool:=λk=>(firstMet val i).any (·==k)
theorem B5{R:Result->Shared->Prop}{I:Addr}{fp wr:List Addr}{G:Array GenState->Array GenState->Prop}{n:Nat}{Pr:Nat->Value->Prop}{St:Nat->Shared->Prop}(W:WalksS P w A.in1 I fp wr G n Pr St)(a:Addr)(ha:a∉fp)
  (val:Nat->Int) (hval:∀i v,Pr i v->∃t,v=.int (val i) t) (hb:n+1<scanBound):
  ∀(k i:Nat) (s:Shared),n-i=k->i<=n->St i s->SetG P w b s.heap a (Y0 val i) (firstMet val i).length ->
   (∀s',Moved (a::wr) G s s'->SetG P w b s'.heap a (Y0 val n) (firstMet val n).length->R (.ok (.ret .none)) s') ->
   codeAny (model P w) A (.builtin "set.update.loop" ⟨[.ref a,.ref I],[]⟩) R s:=by
 have haw:a∉wr:=λh=>ha (W.sub _ h);have up:∀c∈wr,c∈a::wr:=λc hc=>wN _ hc;intro k
 induction k with
 |zero=>
  intro i s hk hi st g fin;have:i=n:=by omega
  subst this;refine codeAny_builtin F.entry_set_update_loop ?_;rw[Around.under_plainId F.plain_set_update_loop _];show wpAny _ A.in1 (pyNext (.ref I) >>=_) _ _ s;refine vf (W.done s _ _ st λs' hm=>?_);show wpAny _ A.in1 (ret Value.none) _ _ s';exact vg (fin s' (hm.mono up) (g.at λo e=>hm.heap a o haw e))
 |succ k ih=>
  intro i s hk hi st g fin;have lt:i<n:=by omega
  refine codeAny_builtin F.entry_set_update_loop ?_;rw[Around.under_plainId F.plain_set_update_loop _];show wpAny _ A.in1 (pyNext (.ref I) >>=_) _ _ s;refine vf (W.item i s _ _ lt st λv s' hP st' hm=>?_);obtain⟨t,rfl⟩:=hval i v hP;have g':=g.at (h':=s'.heap) λo e=>hm.heap a o haw e;show wpAny _ A.in1 (holding [Value.int (val i) t] (setAdd a (.int (val i) t)) >>=_) _ _ s';refine vf (wpAny_holding ?_);unfold setAdd;refine wpAny_holding (vf ((intKind P w).pyHash (k:=val i) (intKind_is _ _ _ _) ?_));have le:=firstMet_length_le val i;refine d3 (s:={ s' with toks:=s'.toks+1 }) (intKind_is _ _ _ _) rfl g' (by omega) λh' sb g2=>?_;have g3:SetG P w b h' a (Y0 val (i+1)) (firstMet val (i+1)).length:=by
   refine g2.eq (λc=>?_) ?_
   ·show _=(firstMet val (i+1)).any (·==c);rw[firstMet_succ,step_any];rfl
   ·rw[firstMet_succ,step_length];rfl
  refine vg ⟨plainId_quiet F.plain_set_update_loop _,ih (i+1) _ (by omega) lt (W.frame _ s' _ _ st' (vd _) λc hc o e=>?_) g3 λs2 hm2 g4=>?_⟩
  ·rw[sb.2 c (λz:c=a=>ha (by rw[<-z];exact hc))];exact e
  ·refine fin s2 (Moved.trans W.gtrans ((hm.mono up).then_heap (vd _) λc o hc e=>?_) hm2) g4;rw[sb.2 c (λz:c=a=>hc (by rw[z];exact wP))];exact e
noncomputable abbrev zl(w:World):Obj:={ cls:=.type "set",dict:=none,data:=.set #[] 0 (.fresh 0 0 (!jK w)) }
theorem g6(v:Value){Q:Value->Shared->Prop}(h:Q (.ref s.heap.objs.size) { s with heap:=s.heap.push (zl w) }):
  codeAny (model P w) A (.call (.builtin "set.__new__") ⟨[.type "set",v],[]⟩) (wants Q E) s:=by
 refine codeAny_of_tree ?_;show wpAny _ A.in1 (do checkBuiltinCall "set.__new__" ⟨[.type "set",v],[]⟩;again (.builtin "set.__new__" ⟨[.type "set",v],[]⟩)) _ _ s;refine vf (wpAny_of_eq (F.newCall_set_1 v) (vg ⟨plainId_quiet F.plain_set_new _,codeAny_builtin F.entry_set_new ?_⟩));rw[Around.under_plainId F.plain_set_new _];unfold Builtin.«set.__new__» Builtin.Frozenset.newClass;have self:=sub_set_self;obtain⟨hp,g,d,tk,os⟩:=s;dsimp only
 wp_walk
 refine wpAny_askSetting (vg ?_);dsimp only;simp only[newObj];refine vf (wpAny_alloc (vg ?_));exact vg h
theorem Jy{l:Addr}{its:Array Value}{ns:List Int}{Q:Value->Shared->Prop}(hh:A.handled=none)(hl:s.heap.IsList l its)(hi:IntsAre its.toList ns)(hb:its.size+1<scanBound)
  (fin:∀(h':Heap) (tk:Nat),SetG P w (jK w) h' s.heap.objs.size (Y0 (λi=>ns.getD i 0) its.size) (firstMet (λi=>ns.getD i 0) its.size).length ->
   (∀c o,c<s.heap.objs.size->s.heap.get? c=some o->h'.get? c=some o)->Q (.ref s.heap.objs.size) { s with heap:=h',toks:=tk }):
  wpAny (model P w) A (call (.type "set") [.ref l]) Q E s:=by
 obtain⟨c,tl,mro⟩:=F.called_set.mro;have made:=F.called_set.made;have sub:=F.called_set.sub;refine wpAny_call (codeAny_of_tree ?_);show wpAny _ _ (callAny (.type "set") _) _ _ _;refine vg ⟨Code.quiet_builtin _ (by decide +kernel),codeAny_builtin F.entry_type_call ?_⟩;rw[Around.under_plain (weight_type_call_type "set" [.ref l] []) rfl];have t1:=F.called_set.notType;have t2:=F.called_set.canCreate;have t3:=F.typeCall_set_1 (.ref l)
 repeat (any_goals (first|assumption|wp_step))
 refine codeAny_mono (g6 (.ref l) (E:=E) (Q:=λv s1=>v=.ref s.heap.objs.size/\s1={ s with heap:=s.heap.push (zl w) }) ⟨rfl,rfl⟩) λr s1 hr=>?_;cases r with
 |error e=>exact hr
 |ok fl=>
  cases fl with
  |ret v=>
   obtain⟨rfl,rfl⟩:=hr;have g0:(s.heap.push (zl w)).get? s.heap.objs.size=some (zl w):=Heap.get?_push_size _ rfl;have ty:Shared.TypeIs { s with heap:=s.heap.push (zl w) } (.ref s.heap.objs.size) "set":=⟨_,g0,rfl⟩
   have li:=F.called_set.init.lookup;have bi:=F.called_set.init.bind (.ref s.heap.objs.size)
   repeat (any_goals (first|assumption|wp_step))
   refine codeAny_mono (codeAny_call_builtin (R:=wants (λr s2=>r=.none/\∃h' tk,s2={ s with heap:=h',toks:=tk }/\
     SetG P w (jK w) h' s.heap.objs.size (Y0 (λi=>ns.getD i 0) its.size) (firstMet (λi=>ns.getD i 0) its.size).length/\
     (∀c o,c<s.heap.objs.size->s.heap.get? c=some o->h'.get? c=some o)) E) F.called_set.init.plain F.entry_set_init (check_set_init_1 ty ?_)) λr2 s2 hr2=>?_
   ·obtain⟨ol,hol,hcl,nl,hdl⟩:=hl;obtain⟨ocls,odict,odata,oslots⟩:=ol;simp only at hcl hdl;subst hcl;subst hdl;have hol':(s.heap.push (zl w)).get? l=some { cls:=.type "list",dict:=odict,data:=.seq its nl,slots:=oslots }:=Heap.get?_push_of_some _ hol;have n1:=F.sub_list_set;have n2:=F.sub_list_frozenset;have n3:(Value.type "list"==Value.type "dict")=false:=by decide
    have hl1:(s.heap.push (zl w)).IsList l its:=⟨_,hol',rfl,nl,rfl⟩
    unfold Builtin.«set.__init__» noKeywords Builtin.Frozenset.updateFrom;generalize hPI:pyIter=_P
    wp_walk
    subst hPI;refine wpAny_pyIter_list hl1 (vf (wpAny_runValue ?_));have lS:l<s.heap.objs.size:=Heap.lt_size hol;have hh3:A.in1.in1.in1.handled=none:=by simp[hh]
    have neI:l≠(s.heap.push (zl w)).objs.size:=by rw[Heap.size_push];exact wR (vZ lS)
    have nf:s.heap.objs.size∉[(s.heap.push (zl w)).objs.size,l]:=by
     rw[Heap.size_push];simp only[wI,wU,wT,or_false,not_or];exact⟨wR (wz _),vX lS⟩
    have hv:∀(i:Nat) (v:Value),its[i]?=some v->∃t,v=.int ((λi=>ns.getD i 0) i) t:=λi v q=>
     IntsAre.int_at hi i v (by rw[Array.getElem?_toList];exact q)
    refine B5 (P:=P) (w:=w) (b:=jK w) ((Walks.list hh3 _ l neI its).toS) s.heap.objs.size nf (λi=>ns.getD i 0) hv hb (its.size-0) 0 _ (by omega) (wu _) ⟨⟨_,Heap.get?_push_size _ rfl,rfl,rfl⟩,(hl1.push _)⟩ ?zer ?fin
    case zer=>
     exact⟨zl w,#[],0,_,Heap.get?_push_of_some _ g0,⟨rfl,rfl,rfl⟩,rfl,λe he=>by simp at he,λk=>by simp[Y0,firstMet_zero],by decide,by rfl,rfl,K7 λz=>by rw[z];rfl⟩
    case fin=>
     intro s' hm g';obtain⟨h',g,d',tk',os'⟩:=s';have eg:g=s.gens:=hm.gens;have ed:d'=s.drawn:=hm.drawn;have eo:os'=s.os:=hm.os;subst eg;subst ed;subst eo;show wpAny _ _ _ _ _ _;refine vg ?_;show wpAny _ _ (ret Value.none) _ _ _;refine vg ⟨rfl,h',tk',rfl,g',λc o hc e=>?_⟩;have c1:c≠s.heap.objs.size:=wR hc;have c2:c≠(s.heap.push (zl w)).objs.size:=by rw[Heap.size_push];exact wR (vZ hc)
     exact hm.heap c o (by simp only[wI,wU,wT,or_false,not_or];exact⟨c1,c2⟩) (Heap.get?_push_of_some _ (Heap.get?_push_of_some _ e))
   ·cases r2 with
    |error e=>exact hr2
    |ok fl2=>
     cases fl2 with
     |ret r=>
      obtain⟨rfl,h',tk,rfl,g',k'⟩:=hr2
      repeat (any_goals (first|assumption|wp_step))
      exact fin _ _ g' k'
     |_=>exact hr2.elim
  |_=>exact hr.elim
end
theorem slot_si_next:Slot "set_iterator" "__next__" "set_iterator.__next__":=
 .of (owner:="set_iterator") (n:="__next__") (by rw[typeLookup_type,builtinLookup_eq_fast];kernel_rfl) (by decide +kernel) (by decide +kernel) (by decide +kernel)
  (by first|exact .inl (by decide +kernel)|exact .inr (by decide +kernel)) (by rw[isSubtype_type];kernel_rfl)
theorem QC:Slot "set_iterator" "__iter__" "set_iterator.__iter__":=
 .of (owner:="set_iterator") (n:="__iter__") (by rw[typeLookup_type,builtinLookup_eq_fast];kernel_rfl) (by decide +kernel) (by decide +kernel) (by decide +kernel)
  (by first|exact .inl (by decide +kernel)|exact .inr (by decide +kernel)) (by rw[isSubtype_type];kernel_rfl)
theorem zH:entryFor table "set_iterator.__next__"=some Builtin.«set_iterator.__next__»:=entryFor_of_tree (by kernel_rfl)
theorem Zl:entryFor table "set_iterator.__iter__"=some Builtin.«dict_keyiterator.__iter__»:=
 entryFor_alias (id':="dict_keyiterator.__iter__") (by kernel_rfl) rfl (by decide +kernel) (by kernel_rfl)
theorem Zx:entryFor table "set.__iter__"=some Builtin.«frozenset.__iter__»:=
 entryFor_alias (id':="frozenset.__iter__") (by kernel_rfl) rfl (by decide +kernel) (by kernel_rfl)
theorem D3:Manifest.owners.lookup (String.ofList ['r','o','t','a','r','e','t','i','_','t','e','s'].reverse)=some Manifest.sig_set_iterator:=by kernel_rfl
theorem zT(a:Value):argsOk "set_iterator.__next__" ⟨[a],[]⟩:=by
 unfold argsOk;rw[signature?_of (id:="set_iterator.__next__") (n:=['_','_','t','x','e','n','_','_']) (o:=['r','o','t','a','r','e','t','i','_','t','e','s']) (by kernel_rfl) D3];kernel_rfl
theorem JO(a:Value):argsOk "set_iterator.__iter__" ⟨[a],[]⟩:=by
 unfold argsOk;rw[signature?_of (id:="set_iterator.__iter__") (n:=['_','_','r','e','t','i','_','_']) (o:=['r','o','t','a','r','e','t','i','_','t','e','s']) (by kernel_rfl) D3];kernel_rfl
def IterS(h:Heap)(I a:Addr)(first:Value)(i n ep:Nat):Prop:=
 ∃o,h.get? I=some o/\o.cls=.type "set_iterator"/\o.data=.fields #[first,.int i 0,.ref a,.int n 0,.int ep 0]
section
variable{P:Program}{w:World}{A:Around}{E:Value->Shared->Prop}{s:Shared}{I a:Addr}{first:Value}{i n ep:Nat}
theorem IterS.typeIs(x:IterS s.heap I a first i n ep):s.TypeIs (.ref I) "set_iterator":=let ⟨o,ho,hc,_⟩:=x;⟨o,ho,hc⟩
theorem IterS.at{h h':Heap}(x:IterS h I a first i n ep)(e:∀o,h.get? I=some o->h'.get? I=some o):IterS h' I a first i n ep:=let ⟨o,ho,r⟩:=x;⟨o,e _ ho,r⟩
theorem W8{Q:Value->Shared->Prop}(hit:IterS s.heap I a first i n ep)(h:Q (.ref I) s):wpAny (model P w) A (pyIter (.ref I)) Q E s:=by
 refine wpAny_pyIter_slot hit.typeIs QC (wpAny_call_entry QC hit.typeIs Zl ?_ (JO _));show wpAny _ _ (ret (.ref I)) _ _ s;exact vg ⟨_,rfl,"set_iterator",_,hit.typeIs,slot_si_next.lookup,h⟩
theorem qAD{Q:Option Value->Shared->Prop}{o:Obj}{es:Array (Int×Value)}{t:SetTable}{x:Value}{sl:Nat}{nx:Nat}(hit:IterS s.heap I a (.int sl 0) i n ep)
  (ho:s.heap.get? a=some o) (hd:o.data=.set es ep t) (hf:t.fits es.size=true) (hn:es.size=n)
  (hx:∀(A:Around) (E:Value->Shared->Prop) (R:Option (Value×Nat)->Shared->Prop),R (some (x,nx)) s->wpAny (model P w) A (setNext a sl i ep) R E s)
  (hQ:∀h',IterS h' I a (.int nx 0) (i+1) n ep->(∀b o,b≠I->s.heap.get? b=some o->h'.get? b=some o)->Q (some x) { s with heap:=h' }):
  wpAny (model P w) A (pyNext (.ref I)) Q E s:=by
 obtain⟨oI,hoI,hcI,hdI⟩:=id hit;unfold pyNext;refine vf (wpAny_attempt (wpAny_callSpecial?_slot (name:=Str.ofString "__next__") hit.typeIs slot_si_next
  (wpAny_call_entry slot_si_next hit.typeIs zH ?_ (zT _))))
 unfold Builtin.«set_iterator.__next__»;refine vf (vg ?_);refine vf (wpAny_fieldsOf hoI hdI ?_);dsimp only;refine vf (wpAny_setEntries_of ho hd hf ?_);rw[if_neg (by rw[hn];simp)];simp only[wk];refine vf (hx _ _ _ ?_);dsimp only;refine vf (wpAny_setField hoI hdI (by simp) ?_);have e1:=Heap.get?_update_self (Obj.mapFields (·.setIfInBounds 0 (rawInt (nx:Int)))) hoI (Obj.isFreed_of_fields (Obj.data_mapFields hdI _));have d1:(Obj.mapFields (·.setIfInBounds 0 (rawInt (nx:Int))) oI).data=.fields #[.int nx 0,.int i 0,.ref a,.int n 0,.int ep 0]:=by rw[Obj.data_mapFields hdI];simp[rawInt]
 refine vf (wpAny_setField e1 d1 (by simp) ?_);refine vg ⟨_,rfl,vg (hQ _ ⟨_,Heap.get?_update_self _ e1 (Obj.isFreed_of_fields (Obj.data_mapFields d1 _)),?_,?_⟩ λb o hb e=>?_)⟩
 ·rw[Obj.cls_mapFields,Obj.cls_mapFields];exact hcI
 ·rw[Obj.data_mapFields d1];simp[rawInt]
 ·exact(Heap.get?_update_other _ _ (Ne.symm hb)).trans ((Heap.get?_update_other _ _ (Ne.symm hb)).trans e)
theorem qB6{Q:Option Value->Shared->Prop}{o:Obj}{es:Array (Int×Value)}{t:SetTable}{sl:Nat}(hh:A.handled=none)(hit:IterS s.heap I a (.int sl 0) i n ep)
  (ho:s.heap.get? a=some o) (hd:o.data=.set es ep t) (hf:t.fits es.size=true) (hn:es.size=n)
  (hx:∀(A:Around) (E:Value->Shared->Prop) (R:Option (Value×Nat)->Shared->Prop),R none s->wpAny (model P w) A (setNext a sl i ep) R E s)
  (hQ:∀h',(∀b o,b≠I->s.heap.get? b=some o->h'.get? b=some o)->Q none { s with heap:=h' }):
  wpAny (model P w) A (pyNext (.ref I)) Q E s:=by
 obtain⟨oI,hoI,hcI,hdI⟩:=id hit;unfold pyNext;refine vf (wpAny_attempt (wpAny_callSpecial?_slot (name:=Str.ofString "__next__") hit.typeIs slot_si_next
  (wpAny_call_entry slot_si_next hit.typeIs zH ?_ (zT _))))
 unfold Builtin.«set_iterator.__next__»;refine vf (vg ?_);refine vf (wpAny_fieldsOf hoI hdI ?_);dsimp only;refine vf (wpAny_setEntries_of ho hd hf ?_);rw[if_neg (by rw[hn];simp)];simp only[wk];refine vf (hx _ _ _ ?_);dsimp only;refine vf (wpAny_setField hoI hdI (by simp) ?_);refine vf ?_;simp only[newExc,newTuple];refine vf (wpAny_newObj_type ?_ (by size_fits));refine vf (m:=firstArgMember _ _) (wpAny_of_eq (a:=Value.none) (by first|rfl|(simp only[firstArgMember];rfl)) ?_);refine wpAny_newObj_type ?_ (by size_fits);simp only[raiseNew];refine vf (wpAny_handled ?_);rw[show A.in1.handled=none from hh];refine vf (vg (wpAny_throw ?_));refine vf (wpAny_isInstance (T:="StopIteration") (b:=true) ⟨_,Heap.get?_push_size _ rfl,rfl⟩ isSubtype_stop ?_);exact vg (hQ _ λb o hb e=>Heap.get?_push_of_some _ (Heap.get?_push_of_some _ ((Heap.get?_update_other _ _ (Ne.symm hb)).trans e)))
theorem qAV{Q:Option Value->Shared->Prop}{o ot:Obj}{es:Array (Int×Value)}{t:SetTable}{x:Value}{h0:Int}{T:Addr}{pl:Array Value}{nt j:Nat}(hit:IterS s.heap I a (.ref T) i n ep)
  (ho:s.heap.get? a=some o) (hd:o.data=.set es ep t) (hf:t.fits es.size=true) (hn:es.size=n)
  (hT:s.heap.get? T=some ot) (hdT:ot.data=.seq pl nt) (hj:pl[i]?=some (.int j 0)) (hx:es[j]?=some (h0,x))
  (hQ:∀h',IterS h' I a (.ref T) (i+1) n ep->(∀b o,b≠I->s.heap.get? b=some o->h'.get? b=some o)->Q (some x) { s with heap:=h' }):
  wpAny (model P w) A (pyNext (.ref I)) Q E s:=by
 obtain⟨oI,hoI,hcI,hdI⟩:=id hit;unfold pyNext;refine vf (wpAny_attempt (wpAny_callSpecial?_slot (name:=Str.ofString "__next__") hit.typeIs slot_si_next
  (wpAny_call_entry slot_si_next hit.typeIs zH ?_ (zT _))))
 unfold Builtin.«set_iterator.__next__»;refine vf (vg ?_);refine vf (wpAny_fieldsOf hoI hdI ?_);dsimp only;refine vf (wpAny_setEntries_of ho hd hf ?_);rw[if_neg (by rw[hn];simp)];simp only[wk];refine vf (wpAny_seqItems hT hdT ?_);dsimp only;rw[hj];dsimp only;simp only[wk];unfold setNextDrawn;refine vf ?_;refine vf (wpAny_setState_of ho hd hf ?_);dsimp only;rw[if_neg (by simp)];rw[hx];refine vg ?_;refine vf (wpAny_setField hoI hdI (by simp) ?_);refine vg ⟨_,rfl,vg (hQ _ ⟨_,Heap.get?_update_self _ hoI (Obj.isFreed_of_fields (Obj.data_mapFields hdI _)),?_,?_⟩ λb o hb e=>?_)⟩
 ·rw[Obj.cls_mapFields];exact hcI
 ·rw[Obj.data_mapFields hdI];simp[rawInt]
 ·exact(Heap.get?_update_other _ _ (Ne.symm hb)).trans e
theorem qCy{Q:Option Value->Shared->Prop}{o ot:Obj}{es:Array (Int×Value)}{t:SetTable}{T:Addr}{pl:Array Value}{nt:Nat}(hh:A.handled=none)(hit:IterS s.heap I a (.ref T) i n ep)
  (ho:s.heap.get? a=some o) (hd:o.data=.set es ep t) (hf:t.fits es.size=true) (hn:es.size=n)
  (hT:s.heap.get? T=some ot) (hdT:ot.data=.seq pl nt) (hj:pl[i]?=none)
  (hQ:∀h',(∀b o,b≠I->s.heap.get? b=some o->h'.get? b=some o)->Q none { s with heap:=h' }):
  wpAny (model P w) A (pyNext (.ref I)) Q E s:=by
 obtain⟨oI,hoI,hcI,hdI⟩:=id hit;unfold pyNext;refine vf (wpAny_attempt (wpAny_callSpecial?_slot (name:=Str.ofString "__next__") hit.typeIs slot_si_next
  (wpAny_call_entry slot_si_next hit.typeIs zH ?_ (zT _))))
 unfold Builtin.«set_iterator.__next__»;refine vf (vg ?_);refine vf (wpAny_fieldsOf hoI hdI ?_);dsimp only;refine vf (wpAny_setEntries_of ho hd hf ?_);rw[if_neg (by rw[hn];simp)];simp only[wk];refine vf (wpAny_seqItems hT hdT ?_);dsimp only;rw[hj];dsimp only;refine vf (wpAny_setField hoI hdI (by simp) ?_);have e1:=Heap.get?_update_self (Obj.mapFields (·.setIfInBounds 0 (rawInt 0))) hoI (Obj.isFreed_of_fields (Obj.data_mapFields hdI _));have d1:(Obj.mapFields (·.setIfInBounds 0 (rawInt 0)) oI).data=.fields #[.int 0 0,.int i 0,.ref a,.int n 0,.int ep 0]:=by rw[Obj.data_mapFields hdI];simp[rawInt]
 refine vf (wpAny_setField e1 d1 (by simp) ?_);refine vf ?_;simp only[newExc,newTuple];refine vf (wpAny_newObj_type ?_ (by size_fits));refine vf (m:=firstArgMember _ _) (wpAny_of_eq (a:=Value.none) (by first|rfl|(simp only[firstArgMember];rfl)) ?_);refine wpAny_newObj_type ?_ (by size_fits);simp only[raiseNew];refine vf (wpAny_handled ?_);rw[show A.in1.handled=none from hh];refine vf (vg (wpAny_throw ?_));refine vf (wpAny_isInstance (T:="StopIteration") (b:=true) ⟨_,Heap.get?_push_size _ rfl,rfl⟩ isSubtype_stop ?_);exact vg (hQ _ λb o hb e=>Heap.get?_push_of_some _ (Heap.get?_push_of_some _ ((Heap.get?_update_other _ _ (Ne.symm hb)).trans ((Heap.get?_update_other _ _ (Ne.symm hb)).trans e))))
end
theorem D6{α:Type}{l:List α}{i:Nat}(hi:i<l.length):(l[i]::l.eraseIdx i).Perm l:=by
 rw[List.eraseIdx_eq_take_drop_succ];refine List.perm_middle.symm.trans ?_;rw[List.getElem_cons_drop,List.take_append_drop]
theorem qA1{α:Type}(next:Nat->Nat):∀(fuel k:Nat) (left:List α) (out:Array α),left.length<=fuel->(pickOrder.go next fuel k left out).toList.Perm (out.toList++left):=by
 intro fuel
 induction fuel with
 |zero=>
  intro k left out h;have:left=[]:=vL (by omega);subst this;simp[pickOrder.go]
 |succ fuel ih=>
  intro k left out h;unfold pickOrder.go;split
  ·rename_i x e;obtain⟨hi,rfl⟩:=wC.mp e;refine(ih _ _ _ (by rw[List.length_eraseIdx_of_lt hi];omega)).trans ?_;rw[Array.toList_push,List.append_assoc];exact List.Perm.append_left _ (D6 hi)
  ·rename_i e;have:left=[]:=by
    rcases left with _|⟨x,left⟩
    ·rfl
    ·have:=List.getElem?_eq_none_iff.mp e;have:=vb (next k) (show 0<(x::left).length by simp);omega
   subst this;simp
theorem V0{α:Type}(next:Nat->Nat)(xs:Array α):(pickOrder next xs).toList.Perm xs.toList:=by
 unfold pickOrder;simpa using qA1 next xs.size 0 xs.toList #[] (by simp)
section
variable{P:Program}{w:World}{A:Around}{E:Value->Shared->Prop}{s:Shared}{I a:Addr}{first:Value}{i n ep:Nat}
theorem qAF{α:Type}:∀(n:Nat) (xs:List α) (s:Shared){Q:List α->Shared->Prop},xs.length=n->(∀ys d,ys.Perm xs->Q ys { s with drawn:=d })->wpAny (model P w) A (drawOrder n xs) Q E s:=by
 intro n
 induction n with
 |zero=>
  intro xs s Q hl h;have:xs=[]:=vL hl;subst this;exact vg (h [] s.drawn .nil)
 |succ n ih=>
  intro xs s Q hl h;rcases xs with _|⟨x0,xs⟩
  ·simp at hl
  ·unfold drawOrder;refine vf ?_;have ch:∀(R:Nat->Shared->Prop),(∀j d,j<(x0::xs).length->R j { s with drawn:=d })->wpAny (model P w) A (choose .order (x0::xs).length) R E s:=by
    intro R hR Γ p hΓ;show Sem.wp _ _ (.choose _ _ _) _ _ _ _;rw[Sem.wp_choose];exact⟨by simp,hR _ _ (vb _ (by simp))⟩
   refine ch _ λj d hj=>?_;rw[wE hj];dsimp only;refine vf (ih _ _ (by rw[List.length_eraseIdx_of_lt hj];simp at hl ⊢;omega) λys d' hp=>vg ?_);exact h _ d' ((hp.cons _).trans (D6 hj))
variable{o:Obj}{es:Array (Int×Value)}{t:SetTable}{sl:Nat}{R:Option (Value×Nat)->Shared->Prop}
theorem JB(hb:jK w=true)(ho:s.heap.get? a=some o)(hd:o.data=.set es ep t)(hf:t.fits es.size=true)
  (h:R (((pickOrder (w.params.setOrder a ep) es)[i]?).map λe=>(e.2,sl)) s):wpAny (model P w) A (setNext a sl i ep) R E s:=by
 have by_:∀(R:Bool->Shared->Prop),R true s->wpAny (model P w) A setsByText R E s:=λR h=>by
  unfold setsByText;refine vf (wpAny_askSetting (vg ?_));show R (jK w) s;rw[hb];exact h
 unfold setNext;refine vf (wpAny_setState_of ho hd hf ?_);dsimp only;refine vf (by_ _ ?_);rw[if_pos rfl,if_neg (by simp)];unfold setWalk;refine vf ?_;refine vf (wpAny_setState_of ho hd hf ?_);dsimp only;refine vf (by_ _ ?_);rw[if_pos rfl];refine vf (wpAny_askSetting (vg ?_));exact vg h
theorem Qz(hb:jK w=false)(ho:s.heap.get? a=some o)(hd:o.data=.set es ep t)(hf:t.fits es.size=true)(hl:t.led=true)(hp:(!t.plain&&decide (es.size>1))=false)
  (h:R (match es[SetTable.below t.place sl]?,t.place[SetTable.below t.place sl]? with|some (_,x),some j=>some (x,j+1)|_,_=>none) s):wpAny (model P w) A (setNext a sl i ep) R E s:=by
 have by_:∀(R:Bool->Shared->Prop),R false s->wpAny (model P w) A setsByText R E s:=λR h=>by
  unfold setsByText;refine vf (wpAny_askSetting (vg ?_));show R (jK w) s;rw[hb];exact h
 unfold setNext;refine vf (wpAny_setState_of ho hd hf ?_);dsimp only;refine vf (by_ _ ?_);rw[if_neg (by decide)];show wpAny _ _ (if (!t.plain&&decide (es.size>1))=true then _ else _) _ _ _;rw[hp,if_neg (by decide)];refine vf (m:=ite ((!t.led&&!es.isEmpty)=true) _ _) ?_;rw[hl,if_neg (by simp)];refine vg ?_;exact vg h
end
open PySem.W
section
variable{P:Program}{w:World}{A:Around}{E:Value->Shared->Prop}{s:Shared}{I a:Addr}{n ep:Nat}
variable{o:Obj}{es:Array (Int×Value)}{t:SetTable}
theorem JJ(hh:A.handled=none)(hne:a≠I)(hd:o.data=.set es ep t)(hf:t.fits es.size=true)(hn:es.size=n)(vs:List Value)(sl:Nat->Nat)
  (nx:∀(i:Nat) (hi:i<vs.length) (s:Shared),s.heap.get? a=some o->∀(A:Around) (E:Value->Shared->Prop) (R:Option (Value×Nat)->Shared->Prop),R (some (vs[i],sl (i+1))) s->wpAny (model P w) A (setNext a (sl i) i ep) R E s)
  (en:∀(s:Shared),s.heap.get? a=some o->∀(A:Around) (E:Value->Shared->Prop) (R:Option (Value×Nat)->Shared->Prop),R none s->wpAny (model P w) A (setNext a (sl vs.length) vs.length ep) R E s):
  WalksS P w A I [I,a] [I] (λa b=>b=a) vs.length (λi v=>vs[i]?=some v) (λi s=>IterS s.heap I a (.int (sl i) 0) i n ep/\s.heap.get? a=some o) where
 sub:=λb hb=>by simp at hb;simp[hb]
 grefl:=λ_=>rfl
 gtrans:=λ_ _ _ x y=>y.trans x
 frame:=λi s h' tk st _ hk=>⟨st.1.at λo e=>hk I (by simp) o e,hk a (by simp) o st.2⟩
 item:=λi s Q E hi st hQ=>by
  refine qAD st.1 st.2 hd hf hn (λA E R hR=>nx i hi s st.2 A E R hR) λh' it k=>?_;exact hQ _ _ (by simp[hi]) ⟨it,k a o hne st.2⟩ ⟨λb o hb e=>k b o (λz=>hb (by simp[z])) e,rfl,rfl,rfl,wF _⟩
 done:=λs Q E st hQ=>by
  refine qB6 hh st.1 st.2 hd hf hn (λA E R hR=>en s st.2 A E R hR) λh' k=>?_;exact hQ _ ⟨λb o hb e=>k b o (λz=>hb (by simp[z])) e,rfl,rfl,rfl,wF _⟩
 self:=λ_ _ _ _ st hQ=>W8 st.1 hQ
theorem Jv{T:Addr}{ot:Obj}{pl:Array Value}{nt:Nat}(hh:A.handled=none)(hne:a≠I)(hT:T≠I)(hd:o.data=.set es ep t)(hf:t.fits es.size=true)(hn:es.size=n)(hdT:ot.data=.seq pl nt)(vs:List Value)
  (hv:∀i (hi:i<vs.length),∃(j:Nat) (h0:Int),pl[i]?=some (.int j 0)/\es[j]?=some (h0,vs[i])) (he:pl[vs.length]?=none):
  WalksS P w A I [I,a,T] [I] (λa b=>b=a) vs.length (λi v=>vs[i]?=some v) (λi s=>IterS s.heap I a (.ref T) i n ep/\s.heap.get? a=some o/\s.heap.get? T=some ot) where
 sub:=λb hb=>by simp at hb;simp[hb]
 grefl:=λ_=>rfl
 gtrans:=λ_ _ _ x y=>y.trans x
 frame:=λi s h' tk st _ hk=>⟨st.1.at λo e=>hk I (by simp) o e,hk a (by simp) o st.2.1,hk T (by simp) ot st.2.2⟩
 item:=λi s Q E hi st hQ=>by
  obtain⟨j,h0,e1,e2⟩:=hv i hi;refine qAV st.1 st.2.1 hd hf hn st.2.2 hdT e1 e2 λh' it k=>?_;exact hQ _ _ (by simp[hi]) ⟨it,k a o hne st.2.1,k T ot hT st.2.2⟩ ⟨λb o hb e=>k b o (λz=>hb (by simp[z])) e,rfl,rfl,rfl,wF _⟩
 done:=λs Q E st hQ=>by
  refine qCy hh st.1 st.2.1 hd hf hn st.2.2 hdT he λh' k=>?_;exact hQ _ ⟨λb o hb e=>k b o (λz=>hb (by simp[z])) e,rfl,rfl,rfl,wF _⟩
 self:=λ_ _ _ _ st hQ=>W8 st.1 hQ
def qCF(P:Program)(w:World)(A:Around)(s s1:Shared)(a I:Addr)(vs:List Value):Prop:=
 ∃(fp:List Addr) (St:Nat->Shared->Prop),WalksS P w A I fp [I] (λa b=>b=a) vs.length (λi v=>vs[i]?=some v) St/\St 0 s1/\s.heap.objs.size<=I/\(∀b∈fp,b=a\/s.heap.objs.size<=b)
  /\ (∀b o,s.heap.get? b=some o->s1.heap.get? b=some o)/\s1={ s with heap:=s1.heap,drawn:=s1.drawn }
theorem g9{Q:Value->Shared->Prop}(A':Around)(hh:A'.handled=none)(ho:s.heap.get? a=some o)(hx:o.ExactSet)(hd:o.data=.set es ep t)(hf:t.fits es.size=true)(hb:es.size<scanBound)(gd:zt t (jK w))
  (fin:∀(I:Addr) (vs:List Value) (s1:Shared),vs.Perm (es.toList.map (·.2))->qCF P w A' s s1 a I vs->Q (.ref I) s1):
  wpAny (model P w) A (pyIter (.ref a)) Q E s:=by
 have hT:s.TypeIs (.ref a) "set":=⟨o,ho,hx.1⟩
 have la:a<s.heap.objs.size:=Heap.lt_size ho;refine wpAny_pyIter_slot hT F.slot_set_iter (wpAny_call_entry F.slot_set_iter hT Zx ?_ (F.args_set_iter_1 _));unfold Builtin.«frozenset.__iter__» Builtin.Frozenset.slot0 slotArgs;simp only[List.isEmpty_nil,Bool.not_true,vB,↓reduceIte,bind_assoc,List.length_nil,bne_self_eq_false];unfold Builtin.Frozenset.addrOf Builtin.Frozenset.sizeOf setDrawn setsByText;refine vf (vg ?_)
 try dsimp only
 refine vf (vg ?_);refine vf (vf (wpAny_setEntries_of ho hd hf (vg ?_)));refine vf (vf (wpAny_setState_of ho hd hf ?_));refine vf (vf (wpAny_askSetting (vg ?_)));refine vg ?_;show wpAny _ _ (if (!jK w&&(!t.plain&&decide (es.size>1)))=true then _ else _) _ _ _;by_cases c:(!jK w&&(!t.plain&&decide (es.size>1)))=true
 ·rw[if_pos c];refine vf (qAF _ _ _ (by simp) λys d hp=>?_);have hys:ys.length=es.size:=by rw[hp.length_eq];simp
  refine vf (wpAny_newTuple ?_ (by rw[wG,hys];exact wM (wo hb) (by decide)));have ho1:(s.heap.push { cls:=.type "tuple",data:=.seq (ys.map λ(i:Nat)=>rawInt i).toArray }).get? a=some o:=Heap.get?_push_of_some _ ho;refine vf (wpAny_setEpoch_of (o:=o) ho1 hd hf ?_);refine vf (wpAny_newObj_type (vg ⟨_,rfl,"set_iterator",_,⟨_,Heap.get?_push_size _ rfl,rfl⟩,slot_si_next.lookup,?_⟩));have hT0:(s.heap.push { cls:=.type "tuple",data:=.seq (ys.map λ(i:Nat)=>rawInt i).toArray }).get? s.heap.objs.size=some { cls:=.type "tuple",data:=.seq (ys.map λ(i:Nat)=>rawInt i).toArray }:=Heap.get?_push_size _ rfl;have sz:(s.heap.push { cls:=.type "tuple",data:=.seq (ys.map λ(i:Nat)=>rawInt i).toArray }).objs.size=s.heap.objs.size+1:=size_push' _ _;have mem:∀j∈ys,j<es.size:=λj hj=>by have:=hp.mem_iff.mp hj;simpa using this
  refine fin _ (ys.map λj=>(es.toList.map (·.2)).getD j .none) _ ?_ ⟨_,_,Jv (T:=s.heap.objs.size) (o:=o) hh ?_ ?_ hd hf rfl rfl _ ?_ ?_,⟨⟨_,Heap.get?_push_size _ rfl,rfl,?_⟩,Heap.get?_push_of_some _ ho1,Heap.get?_push_of_some _ hT0⟩,?_,?_,?_,rfl⟩
  ·refine(hp.map _).trans (List.Perm.of_eq ?_);apply va
   ·simp
   ·intro i h1 h2;simp at h1;simp[h1]
  ·rw[sz];exact wR (vZ la)
  ·rw[sz];exact wR (wz _)
  ·intro i hi;simp at hi;have hj:=mem ys[i] (wn hi);refine⟨ys[i],es[ys[i]].1,?_,?_⟩
   ·simp[hi,rawInt]
   ·simp[hj]
  ·simp
  ·rfl
  ·rw[sz];omega
  ·intro b hb';simp[sz]at hb';rcases hb' with rfl|rfl|rfl
   ·exact .inr (vd _)
   ·exact .inl rfl
   ·exact .inr (wF _)
  ·exact λb o e=>Heap.get?_push_of_some _ (Heap.get?_push_of_some _ e)
 ·rw[if_neg c];refine vf (vg ?_);refine vf (wpAny_setEpoch_of (o:=o) ho hd hf ?_);refine vf (wpAny_newObj_type (vg ⟨_,rfl,"set_iterator",_,⟨_,Heap.get?_push_size _ rfl,rfl⟩,slot_si_next.lookup,?_⟩));have pl:t.place.size=es.size:=by
   simp only[SetTable.fits,wB,beq_iff_eq]at hf;exact hf.1
  cases hm:jK w with
  |true=>
   have pm:=V0 (w.params.setOrder a ep) es;refine fin _ ((pickOrder (w.params.setOrder a ep) es).toList.map (·.2)) _ (pm.map _) ⟨_,_,JJ (o:=o) hh (wR la) hd hf rfl _ (λ_=>0) ?_ ?_,⟨⟨_,Heap.get?_push_size _ rfl,rfl,rfl⟩,Heap.get?_push_of_some _ ho⟩,wF _,?_,?_,rfl⟩
   ·intro i hi s ho A E R hR;refine JB hm ho hd hf ?_;simp at hi;simpa [hi] using hR
   ·intro s ho A E R hR;refine JB hm ho hd hf ?_;simpa using hR
   ·intro b hb';simp at hb';rcases hb' with rfl|rfl
    ·exact .inr (wF _)
    ·exact .inl rfl
   ·exact λb o e=>Heap.get?_push_of_some _ e
  |false=>
   rw[hm]at c gd;have c':(!t.plain&&decide (es.size>1))=false:=by simpa using c
   have gl:=gd.led rfl;have hsl:∀i,i<=es.size->SetTable.below t.place (if i=0 then 0 else t.place.getD (i-1) 0+1)=i:=by
    intro i hi;split
    ·rename_i e;rw[e];exact M8 gd.rise
    ·rw[L9 gd.rise (by omega)];omega
   refine fin _ (es.toList.map (·.2)) _ (.refl _) ⟨_,_,JJ (o:=o) hh (wR la) hd hf rfl _ (λi=>if i=0 then 0 else t.place.getD (i-1) 0+1) ?_ ?_,⟨⟨_,Heap.get?_push_size _ rfl,rfl,rfl⟩,Heap.get?_push_of_some _ ho⟩,wF _,?_,?_,rfl⟩
   ·intro i hi s ho A E R hR;refine Qz hm ho hd hf gl c' ?_;simp at hi;rw[hsl i (by omega)];have:i<t.place.size:=by omega
    simpa [hi,this] using hR
   ·intro s ho A E R hR;refine Qz hm ho hd hf gl c' ?_;rw[hsl _ (by simp)];simpa using hR
   ·intro b hb';simp at hb';rcases hb' with rfl|rfl
    ·exact .inr (wF _)
    ·exact .inl rfl
   ·exact λb o e=>Heap.get?_push_of_some _ e
theorem e7{Q:Bool->Shared->Prop}(hT:s.TypeIs (.ref a) "set")(h:Q false s):wpAny (model P w) A (Builtin.List.listLengthHint (.ref a)) Q E s:=by
 unfold Builtin.List.listLengthHint;refine vf (wpAny_specialOf hT F.slot_set_len.lookup ?_);generalize hid:("set.__len__":String)=id0
 wp_delta
 rw[show splitId id0=some ("set","__len__") from by subst hid;decide +kernel];subst hid;refine vf (wpAny_isInstance (T:="set") (b:=true) hT (by rw[isSubtype_type];kernel_rfl) ?_);refine wpAny_ite_split (λhab=>absurd hab (by decide)) (λ_=>?_);refine wpAny_ite_split (λ_=>?_) (λhab=>absurd (by decide +kernel) hab);refine vf (wpAny_typeOf hT ?_);exact vg h
theorem Z0{acc:Array Value}{vs:List Value}(h:ItemsOf (λi v=>vs[i]?=some v) acc vs.length):acc.toList=vs:=by
 apply va
 ·rw[wZ];exact h.1
 ·intro i h1 h2;have:=h.2 i acc.toList[i] (by rw[<-Array.getElem?_toList];exact wE h1);exact Option.some.inj ((this:vs[i]?=_).symm.trans (wE h2))
theorem B9{R:List Value->Shared->Prop}(hh:A.handled=none)(ho:s.heap.get? a=some o)(hx:o.ExactSet)(hd:o.data=.set es ep t)(hf:t.fits es.size=true)(hb:es.size<scanBound)(gd:zt t (jK w))
  (h:∀(h':Heap) (tk:Nat) (d:Drawn) (vs:List Value),(∀b o,s.heap.get? b=some o->h'.get? b=some o)->s.heap.objs.size<h'.objs.size->vs.Perm (es.toList.map (·.2))->R vs { s with heap:=h',toks:=tk,drawn:=d }):
  wpAny (model P w) A (collect (.ref a)) R E s:=by
 have la:=Heap.lt_size ho;unfold collect;refine vf (wpAny_runValue (codeAny_builtin entry_proto_collect' ?_));rw[Around.under_plainId F.plain_proto_collect _];show wpAny _ A.in1 (newList [] >>=λl=>again (.builtin "list.__iadd__" ⟨[l,.ref a],[]⟩)) _ _ s;refine vf (wpAny_newObj_type ?_);refine vg ⟨plainId_quiet F.plain_list_iadd _,codeAny_builtin entry_list_iadd' ?_⟩;rw[Around.under_plainId F.plain_list_iadd _];have hS₁:(s.heap.push { cls:=.type "list",data:=.seq ([]:List Value).toArray }).get? s.heap.objs.size=some { cls:=.type "list",data:=.seq #[] }:=Heap.get?_push_size _ rfl;have ho1:(s.heap.push { cls:=.type "list",data:=.seq ([]:List Value).toArray }).get? a=some o:=Heap.get?_push_of_some _ ho;show wpAny _ A.in1 (Builtin.List.listExtendWith (.ref s.heap.objs.size) (.ref a) (.ref s.heap.objs.size)) _ _ _;have hT:Shared.TypeIs { s with heap:=s.heap.push { cls:=.type "list",data:=.seq ([]:List Value).toArray } } (.ref a) "set":=⟨o,ho1,hx.1⟩
 have neS:s.heap.objs.size≠a:=vX la;have zS:=size_push' s.heap { cls:=.type "list",data:=.seq ([]:List Value).toArray };have old:∀b o,s.heap.get? b=some o->(s.heap.push { cls:=.type "list",data:=.seq ([]:List Value).toArray }).get? b=some o/\b≠s.heap.objs.size:=λb o e=>⟨Heap.get?_push_of_some _ e,wR (Heap.lt_size e)⟩
 generalize s.heap.objs.size=S at *;unfold Builtin.List.listExtendWith;refine vf (wpAny_typeOf hT ?_);have h1:Builtin.List.listSameRef (.ref S) (.ref a)=false:=by simp[Builtin.List.listSameRef,neS]
 simp only[h1,show (Value.type "set"==Value.type "list")=false by decide,show (Value.type "set"==Value.type "tuple")=false by decide,Bool.or_false,vB,if_false];refine vf (g9 A.in1 hh ho1 hx hd hf hb gd λI vs s1 pm way=>?_);obtain⟨fp,St,W,st,hI,hfp,k1,e1⟩:=way;have hSf:S∉fp:=λz=>(hfp S z).elim neS λq=>by
  have:S+1<=S:=by rw[<-zS];exact q
  exact absurd this (Nat.not_succ_le_self _)
 have hSI:S≠I:=λz=>by
  have:S+1<=S:=by rw[<-zS];exact z ▸ hI
  exact absurd this (Nat.not_succ_le_self _)
 have hT1:s1.TypeIs (.ref a) "set":=⟨o,k1 _ _ ho1,hx.1⟩
 have S1:=k1 _ _ hS₁;have hn:vs.length<=sizeLine:=by rw[pm.length_eq,wG,wZ];exact wM (wo hb) (by decide)
 refine vf (wpAny_holding (e7 hT1 ?_));have key:∀(s2:Shared) (c₁:Nat),St 0 s2->(∀b o,b≠S->s1.heap.get? b=some o->s2.heap.get? b=some o)->s2={ s1 with heap:=s2.heap } ->
   s2.heap.get? S=some { cls:=.type "list",data:=.seq #[] c₁ } ->
   codeAny (model P w) A (.builtin "list.extend.loop" ⟨[.ref S,.ref I,.ref S],[]⟩) (λq s'=>q=.ok (.ret (.ref S))/\∃(h':Heap) (tk:Nat) (d:Drawn) (c':Nat),s'={ s with heap:=h',toks:=tk,drawn:=d }/\(∀b o,s.heap.get? b=some o->h'.get? b=some o)/\h'.get? S=some { cls:=.type "list",dict:=none,data:=.seq vs.toArray c',slots:=#[] }) s2:=by
  intro s2 c₁ hst hk es2 hS2;refine codeAny_extend_loopS W hn S hSf (.ref S) vs.length 0 _ #[] c₁ rfl (wu _) hst hS2 (ItemsOf.nil _) λs' acc' c' hm hS' hacc=>⟨rfl,s'.heap,s'.toks,s'.drawn,c',?_,λb o e=>?_,?_⟩
  ·rw[Moved.eq_with hm,es2,e1]
  ·refine hm.heap b o (λz=>?_) (hk b o (old b o e).2 (k1 b o (old b o e).1));rcases wI.mp z with z|z
   ·exact(old b o e).2 z
   ·have z:=wU.mp z;subst z;exact absurd (wK (Heap.lt_size (old _ o e).1) hI) (wf _)
  ·rw[<-Z0 hacc];simpa using hS'
 refine wpAny_ite_split (λ_=>?_) (λ_=>?_)
 ·refine vf (wpAny_rule ?_);refine vf ?_;show wpAny _ _ (updateSeq S (·.push .none) >>=λ_=>updateSeq S (·.pop)) _ _ _;refine vf (wpAny_updateSeq S1 rfl ?_);have hS₂:=Heap.get?_update_self (Obj.mapSeq (·.push Value.none)) S1 rfl;refine wpAny_updateSeq (hz:=by seq_fits) hS₂ rfl ?_;have hS₃:=Heap.get?_update_self (Obj.mapSeq (·.pop)) hS₂ rfl;have up:∀b o,b≠S->s1.heap.get? b=some o->((s1.heap.update S (Obj.mapSeq (·.push Value.none))).update S (Obj.mapSeq (·.pop))).get? b=some o:=
   λb o hbS e=>(Heap.get?_update_other _ _ (Ne.symm hbS)).trans ((Heap.get?_update_other _ _ (Ne.symm hbS)).trans e)
  refine vg ⟨plainId_quiet F.plain_extend_loop _,codeAny_mono (key _ _ (W.frame 0 s1 _ s1.toks st (wF _) λb hb' o e=>up b o (λh=>hSf (h ▸ hb')) e) up rfl hS₃) λq s' x=>?_⟩;obtain⟨rfl,h',tk,d,c',rfl,hk,hS'⟩:=x;show wpAny _ A (load S >>=_) _ _ _;refine vf (wpAny_load hS' ?_);exact vg (h h' tk d vs hk (Heap.lt_size hS') pm)
 ·refine vg ⟨plainId_quiet F.plain_extend_loop _,codeAny_mono (key _ 0 st (λb o _ e=>e) rfl S1) λq s' x=>?_⟩;obtain⟨rfl,h',tk,d,c',rfl,hk,hS'⟩:=x;show wpAny _ A (load S >>=_) _ _ _;refine vf (wpAny_load hS' ?_);exact vg (h h' tk d vs hk (Heap.lt_size hS') pm)
theorem U7(k:Int):∀(L acc:List Int),k∈L.foldl step_dedup acc↔k∈acc\/k∈L:=by
 intro L
 induction L with
 |nil=>intro acc;simp
 |cons x L ih=>
  intro acc;rw[List.foldl_cons,ih];unfold step_dedup;split
  ·rename_i q;obtain⟨y,hy,e⟩:=vc.mp q;have:y=x:=by simpa using e
   subst this;simp only[wI];exact⟨λz=>z.elim .inl λz=>.inr (.inr z),λz=>z.elim .inl λz=>z.elim (λz=>.inl (z ▸ hy)) .inr⟩
  ·simp only[wJ,wI,wT,or_false,or_assoc]
theorem Js:∀(L acc:List Int),acc.Nodup->(L.foldl step_dedup acc).Nodup:=by
 intro L
 induction L with
 |nil=>intro acc h;exact h
 |cons x L ih=>
  intro acc h;rw[List.foldl_cons];refine ih _ ?_;unfold step_dedup;split
  ·exact h
  ·rename_i q;rw[wt];refine⟨h,by simp,λy hy z hz=>?_⟩;have hz:z=x:=by simpa using hz
   subst hz;intro e;exact q (vc.mpr ⟨y,hy,by simp[e]⟩)
theorem uniq_mem{k:Int}{L:List Int}:k∈uniq L↔k∈L:=by unfold uniq;rw[U7];simp
theorem L5(L:List Int):(uniq L).Nodup:=Js L [] vO
theorem jc(L:List Int):firstMet (λi=>L.getD i 0) L.length=uniq L:=by
 unfold firstMet uniq;congr 1;apply va
 ·simp
 ·intro i h1 h2;simp at h1;simp[h1]
theorem B8{α:Type}[DecidableEq α]{l k:List α}(hl:l.Nodup)(hs:∀x∈l,x∈k)(hn:k.length<=l.length):k.Perm l:=by
 induction l generalizing k with
 |nil=>
  have:k=[]:=vL (by simpa using hn);subst this;exact .nil
 |cons x l ih=>
  obtain⟨h1,h2⟩:=vV.mp hl;have hx:=hs x (wP);have p:=List.perm_cons_erase hx;refine p.trans (List.Perm.cons x (ih h2 (λy hy=>?_) ?_))
  ·have:y≠x:=λe=>h1 (e ▸ hy);exact(List.mem_erase_of_ne this).mpr (hs y (wN _ hy))
  ·rw[List.length_erase_of_mem hx];simp at hn;omega
theorem L8{L:List Int}{Q:Value->Shared->Prop}(hh:A.handled=none)(g:SetG P w (jK w) s.heap a (Y0 (λi=>L.getD i 0) L.length) (uniq L).length)(h64:L.length<64)
  (h:∀(D:Addr) (h':Heap) (tk:Nat) (d:Drawn) (out:Array Value) (ns:List Int) (e:Nat),IntsAre out.toList ns->ns.Perm (uniq L)->ns.Pairwise (·<=·)->s.heap.objs.size<=D->h'.get? D=some (seqObj "list" out e) ->
   (∀b o,s.heap.get? b=some o->h'.get? b=some o)->Q (.ref D) { s with heap:=h',toks:=tk,drawn:=d }):
  wpAny (model P w) A (call (.builtin "sorted") [.ref a]) Q E s:=by
 obtain⟨o,es,ep,t,ho,hx,hd,hel,hmem,hb,hf,hn,gd⟩:=g;refine Calls.call_function_entry kind_sorted plain_sorted entry_sorted (args_sorted1 _) ?_;unfold Builtin.«sorted»;refine vf (m:=checkCount "sorted" 1 1 _) (vg ?_);refine vf (B9 (A:=A.in1) hh ho hx hd hf hb gd λh' tk d vs hk hlt pm=>?_);have un:(uniq L).length<=L.length:=by rw[<-jc];exact firstMet_length_le _ _
 have hvl:vs.length=(uniq L).length:=by rw[pm.length_eq,wG,wZ,hn]
 have intv:∀v∈vs,∃k tt,v=Value.int k tt:=λv hv=>by
  obtain⟨e,he,rfl⟩:=wy.mp (pm.mem_iff.mp hv);obtain⟨⟨k,hk,_⟩,_⟩:=hel e he;obtain⟨tt,q⟩:=Value.isInt_shape hk;exact⟨k,tt,q⟩
 have ex:∃zs:List Int,IntsAre vs zs/\∀k tt,Value.int k tt∈vs->k∈zs:=by
  clear pm hvl
  induction vs with
  |nil=>exact⟨[],.nil,λ_ _ z=>by simp at z⟩
  |cons v vs ih=>
   obtain⟨k,tt,rfl⟩:=intv _ (wP);obtain⟨zs,z1,z2⟩:=ih λv hv=>intv v (wN _ hv);exact⟨k::zs,.cons k tt z1,λk' tt' z=>(wI.mp z).elim (λz=>by cases z;exact wP) λz=>wN _ (z2 _ _ z)⟩
 obtain⟨zs,hI,hz⟩:=ex;have pz:zs.Perm (uniq L):=by
  refine B8 (L5 L) (λk hk=>?_) (by rw[<-IntsAre.length hI,hvl];exact wF _);have:Y0 (λi=>L.getD i 0) L.length k=true:=by
   unfold Y0;rw[jc];exact vc.mpr ⟨k,hk,by simp⟩
  obtain⟨e,he,q⟩:=(hmem k).mp this;obtain⟨tt,q⟩:=Value.isInt_shape q;exact hz k tt (pm.mem_iff.mpr (wy.mpr ⟨e,he,q⟩))
 refine vf (wpAny_newList ?_ (by rw[hvl,sizeLine_eq];omega));have hoL:(h'.push (seqObj "list" vs.toArray 0)).get? h'.objs.size=some (seqObj "list" vs.toArray 0):=Heap.get?_push_size _ rfl;refine vf (wpAny_holding (wpAny_call_entry slot_list_sort ⟨_,hoL,rfl⟩ entry_list_sort (list_sort_tree hoL hI (by rw[hvl];omega) λout ns' a1 a2 a3=>⟨_,rfl,?_⟩) (args_list_sort _)));refine vg ⟨_,rfl,?_⟩;obtain⟨e,he⟩:=sortedHeap_at (vs:=vs) (out:=out) hoL;refine h _ _ tk d out ns' e a1 (a2.trans pz) a3 (wo hlt) he λb o e=>?_;have lb:=Heap.lt_size (hk b o e);rw[sortedHeap_old (wR lb) (by rw[size_push'];exact vZ lb)];exact Heap.get?_push_of_some _ (hk b o e)
end
def T2(P:Program)(w:World)(a:Addr)(L:List Int):Heap->Prop:=λh=>SetG P w (jK w) h a (Y0 (λi=>L.getD i 0) L.length) (uniq L).length
theorem P8{X:Cx}{pins:List (Addr×Obj)}{σ:List (Option V)}{H:Hp}{s:Shared}(I:Inv X pins σ H s)(d:Drawn):Inv X pins σ H { s with drawn:=d }:=
 ⟨I.ok,I.os,I.bare,I.base,I.loc,I.cell,I.free,I.freeC,I.pin,I.hok,I.len⟩
section
variable{X:Cx}
theorem K0(hc:X.calm=true):qj X (.type "set") (λxs H Q=>∃p,∃is:List Int,xs=[.ref p]/\SqL X.K H p (is.map V.int)/\is.length<64/\∀l,H l=none->Q (.ref l) (upd H l (.ext (T2 X.prog X.w l is)))):=by
 intro pins s σ H xs us Q I r ⟨p,is,e,hp,hj,q⟩;subst e;obtain⟨u,rfl,ru⟩:=_L.vals1 r;cases ru;obtain⟨its,rv',pl,_⟩:=I.list hp;have hi:IntsAre its is:=_L.intsAre_of rv';have hl:its.length=is.length:=IntsAre.length hi;refine Jy (its:=its.toArray) (ns:=is) (I.ok.hd hc) pl.isList (by simpa using hi) (by simp[scanBound];omega) λh' tk hS hk=>?_;obtain⟨o,es,ep,t,ho,rst⟩:=id hS;refine⟨.ref s.heap.objs.size,_,I.laid (t':=tk) (λb o' e=>hk b o' (Heap.lt_size e) e) (wF _) ?_,rfl,q _ (I.hok.fresh (wF _))⟩;refine⟨?_,⟨o,ho⟩,λh1 h2 g k=>?_⟩
 ·unfold T2;rw[<-jc,<-hl];simpa using hS
 ·exact SetG.at g λo e=>k o e
theorem A4(hc:X.calm=true):qj X (.builtin "sorted") (λxs H Q=>∃p,∃L:List Int,xs=[.ref p]/\H p=some (.ext (T2 X.prog X.w p L))/\L.length<64/\∀l,H l=none->Q (.ref l) (upd H l (.lst ((zo (uniq L)).map V.int)))):=by
 intro pins s σ H xs us Q I r ⟨p,L,e,hp,hj,q⟩;subst e;obtain⟨u,rfl,ru⟩:=_L.vals1 r;cases ru;have g:T2 X.prog X.w p L s.heap:=(I.hok p _ hp).1;have un:(uniq L).length<=L.length:=by rw[<-jc];exact firstMet_length_le _ _
 refine L8 (I.ok.hd hc) g hj λD h' tk d out ns e a1 a2 a3 hD hat hk=>?_;have e1:ns=zo (uniq L):=Zq a3 (ZV _) (a2.trans (zA _).symm);subst e1;have hl:=(zA (uniq L)).length_eq;refine⟨.ref D,_,(P8 I d).laid (t':=tk) (o:=.lst ((zo (uniq L)).map V.int)) (λb o q=>hk b o q) hD ?_,rfl,q _ (I.hok.fresh hD)⟩;refine⟨by rw[wG,hl,sizeLine_eq];omega,out.toList,e,zY a1,?_⟩;rw[Array.toArray_toList];exact hat
end
section
variable{X:Cx}{G:List Addr}{F:Nat->List V->AH->RV}{a:E}{ea:Expr}{pos:Pos}
theorem qAH{p p2 pos2:Pos}(hc:X.calm=true)(hg:_L.Gl X "sorted")(hm:X.mg "sorted"=none)(hg2:_L.Gl X "set")(hm2:X.mg "set"=none)(hn:qN ea=true)(ha:SE X G F ea a):
  SE X G F (.Call (.Name "sorted" p) [.Call (.Name "set" p2) [ea] [] pos2] [] pos) (.sset a):=by
 refine qi (_L.pe_callB (A4 hc) hg hm PyProof.Rows.boot_sorted (_L.pa_cons (_L.pe_callTy (K0 hc) hg2 hm2 PyProof.Rows.boot_set (_L.pa_cons ha _L.pa_nil (qC hn)) (by decide) (by decide) (qC hn) rfl) _L.pa_nil rfl) (by decide) (by decide) rfl rfl) λσc H Q q=>?_;obtain⟨φ,h,σ,v,h',R,rs,e,k⟩:=q;unfold ev at e;obtain⟨⟨x,h1⟩,e1,e⟩:=tN e;refine⟨φ,h,σ,x,h1,R,rs,e1,λφ1 H1 w x1 R1 r1=>?_⟩;dsimp only at e;split at e
 ·rename_i q0;split at e
  ·rename_i ys ey;split at e
   ·rename_i is ei;split at e
    ·rename_i hl;cases e;obtain⟨p',rfl,hp⟩:=qI r1;obtain⟨p'',zs,hp',hs,rs'⟩:=R1.lst ey;rw[hp]at hp';cases hp';have hm':=zL ei;subst hm';have hz:=zI (zP is) rs';subst hz;refine⟨p',is,rfl,hs,hl,λl hl'=>⟨l,is,rfl,qF,hl,λl2 hl2=>?_⟩⟩;have R2:=R1.same (je (o:=.ext (T2 X.prog X.w l is)) hl');exact k (φ1++[l2]) _ _ (x1.trans ⟨[_],rfl⟩) (R2.newL hl2 (QV (zP _))) R2.lastRef
    ·cases e
   ·cases e
  ·cases e
 ·cases e
end
noncomputable def Itz(K:PySem.W.Frag)(a b:Addr):It:=
 ⟨λi H=>∃xs ys x y,SqL K H a xs/\SqL K H b ys/\xs[i]?=some x/\ys[i]?=some y,
  λi H v H'=>∃p x y,H p=none/\v=.ref p/\H'=upd H p (.tup [x,y])/\(∀xs,SqL K H a xs->xs[i]?=some x)/\∀ys,SqL K H b ys->ys[i]?=some y,
  λi H=>∃xs ys,SqL K H a xs/\SqL K H b ys/\(xs.length<=i\/ys.length<=i)⟩
theorem T6{X:Cx}{pins:List (Addr×Obj)}{σ:_L.St}{H:Hp}{s:Shared}{h':Heap}{T:Addr}{xs:List V}{its:List Value}{ch:List Addr}{t':Nat}(I:Inv X pins σ H s)(hf:∀b∈ch,Qs X pins H b)
  (hT:s.heap.objs.size<=T) (k:∀b o,b∉ch->s.heap.get? b=some o->h'.get? b=some o) (hp:IsTup h' T its.toArray) (hv:Vals xs its) (hz:xs.length<=sizeLine) (hTc:T∉ch):
  Inv X pins σ (upd H T (.tup xs)) { s with heap:=h',toks:=t' }:=by
 have hn:H T=none:=I.hok.fresh hT;have neT:∀b o,s.heap.get? b=some o->b≠T:=λb o e=>wR (wK (Heap.lt_size e) hT);refine I.step (g':=s.gens) (d':=s.drawn) (ch:=ch) (λb hb=>⟨(hf b hb).2.2.2.1,(hf b hb).2.1,(hf b hb).2.2.2.2.1,(hf b hb).2.2.2.2.2⟩) (λb o _ _ hc e _=>k b o hc e) (λb o _ _ hc e _=>⟨o.slots,k b o hc e⟩)
  (λb o _ e n=>by rw[qG (neT b o e)];exact n) (λb o hc e=>⟨o,k b o hc e⟩) (λb ys e=>by rw[qG (_L.ne_of_none e hn)];exact e) (λb o u e=>by rw[qG (_L.ne_of_none e hn)];exact e)
  (λb ps e=>⟨#[],by rw[qG (_L.ne_of_none e hn),e];simp⟩) (λm hm=>?_) (λb u e=>?_) I.bare
 ·obtain⟨o,es,ep,ho,r⟩:=hm;exact⟨o,es,ep,k _ o (λz=>(hf _ z).2.1 rfl) ho,r⟩
 ·by_cases hb:b=T
  ·subst hb;rw[qF]at e;cases e;exact⟨hz,its,hv,hp⟩
  ·rw[qG hb]at e;have nc:∀c u,H c=some u->c∉ch:=λc u q z=>by rw[(hf c z).1]at q;cases q
   refine(I.hok b u e).stay (λc v hc q=>k c v ?_ q) (λc q=>by rw[qG (_L.ne_of_none q hn)];exact q) λc ys q=>by rw[qG (_L.ne_of_none q hn)];exact q
   rcases hc with z|z
   ·rw[z];exact nc b u e
   ·exact nc c _ z
theorem j3{P:Program}{w:World}{K:PySem.W.Frag}{elts:List Expr}{kk:Nat}{tpos:Pos}(z TI TO i1 i2 a b:Addr)(D:ZipApart z TI TO i1 i2 a b):
  Zk P w K (.Tuple elts kk tpos) (Itz K a b) [z,TI,TO,i1,i2] z (λi h=>IsZip h z TI TO .none/\IsPair h TI (.ref i1) (.ref i2)/\(∃x y,IsPair h TO x y)/\h.IsListIter i1 a i/\h.IsListIter i2 b i) where
 mem:=by simp
 obj:=λi h st c hc=>by
  obtain⟨h1,h2,⟨x,y,h3⟩,⟨o4,e4,c4,d4⟩,⟨o5,e5,c5,d5⟩⟩:=st;simp only[wI,wT,or_false]at hc;rcases hc with rfl|rfl|rfl|rfl|rfl
  ·exact⟨_,h1,λv q=>by have q':Data.fields _=Data.cell v:=q;cases q'⟩
  ·exact⟨_,h2,λv q=>by have q':Data.seq _ _=Data.cell v:=q;cases q'⟩
  ·exact⟨_,h3,λv q=>by have q':Data.seq _ _=Data.cell v:=q;cases q'⟩
  ·exact⟨o4,e4,λv q=>by rw[d4]at q;cases q⟩
  ·exact⟨o5,e5,λv q=>by rw[d5]at q;cases q⟩
 keep:=λi h h' st k=>by
  obtain⟨h1,h2,⟨x,y,h3⟩,h4,h5⟩:=st;exact⟨k z (by simp) _ h1,k TI (by simp) _ h2,⟨x,y,k TO (by simp) _ h3⟩,h4.at λo e=>k i1 (by simp) o e,h5.at λo e=>k i2 (by simp) o e⟩
 item:=by
  intro X hP hw hK hc i pins s σ H E I hf st hg;subst hP hw hK;obtain⟨xs,ys,x,y,hq1,hq2,hx,hy⟩:=hg;obtain⟨its1,rv1,p1,_⟩:=I.list hq1;obtain⟨its2,rv2,p2,_⟩:=I.list hq2;obtain⟨u,hu,ru⟩:=rv1.get hx;obtain⟨w',hw',rw'⟩:=rv2.get hy;obtain⟨h1,h2,⟨ta,tb,h3⟩,h4,h5⟩:=st;refine wpAny_pyNext_zip_item D h1 h2 h3 h4 h5 p1.isList p2.isList (x:=u) (y:=w') (by simpa using hu) (by simpa using hw') λh' z1 z2 z3 z4 z5 z6 z7=>?_;refine⟨_,rfl,wpAny_letOwnedTupleGo_zip z1 λh'' g1 gs=>?_⟩;have lt:∀c∈[z,TI,TO,i1,i2],c≠s.heap.objs.size:=λc hc=>by
   have ex:∃o,s.heap.get? c=some o:=by
    simp only[wI,wT,or_false]at hc;rcases hc with rfl|rfl|rfl|rfl|rfl
    ·exact⟨_,h1⟩
    ·exact⟨_,h2⟩
    ·exact⟨_,h3⟩
    ·obtain⟨o,e,_⟩:=h4;exact⟨o,e⟩
    ·obtain⟨o,e,_⟩:=h5;exact⟨o,e⟩
   obtain⟨o,e⟩:=ex;exact wR (Heap.lt_size e)
  have up:∀c o,c≠z->h'.get? c=some o->h''.get? c=some o:=λc o hz e=>gs.extBut c o hz e;have kp:∀c o,c∉[z,TI,TO,i1,i2]->s.heap.get? c=some o->h''.get? c=some o:=λc o hn e=>by
   simp only[wI,wT,or_false,not_or]at hn;exact up c o hn.1 (z7 c o hn.1 hn.2.2.1 hn.2.2.2.1 hn.2.2.2.2 e)
  have ht:IsTup h'' s.heap.objs.size #[u,w']:=⟨_,up _ _ (Ne.symm (lt z (by simp))) z5,rfl,_,rfl⟩
  have I1:=T6 (t':=s.toks) (xs:=[x,y]) (its:=[u,w']) I hf (wF _) kp ht (.cons ru (.cons rw' .nil)) (by show 2<=sizeLine;decide) (λq=>lt _ q rfl);refine⟨.ref s.heap.objs.size,_,I1,rfl,⟨s.heap.objs.size,x,y,I.hok.fresh (wF _),rfl,rfl,λzs hz=>by rw[I.list_inj hz hq1];exact hx,λzs hz=>by rw[I.list_inj hz hq2];exact hy⟩,
   ⟨g1,up _ _ D.TIz (z7 TI _ D.TIz D.TITO D.TIi1 D.TIi2 h2),⟨_,_,up _ _ D.TOz z2⟩,z3.at λo e=>up _ o D.i1z e,z4.at λo e=>up _ o D.i2z e⟩,λc hc=>?_⟩
  rw[qG (lt c hc)];exact(hf c hc).1
 done:=by
  intro X hP hw hK hc i pins s σ H E I hf st hg;subst hP hw hK;obtain⟨xs,ys,hq1,hq2,hl⟩:=hg;obtain⟨its1,rv1,p1,_⟩:=I.list hq1;obtain⟨its2,rv2,p2,_⟩:=I.list hq2;obtain⟨h1,h2,⟨ta,tb,h3⟩,h4,h5⟩:=st;have n1:=rv1.length;have n2:=rv2.length;refine wpAny_pyNext_zip_end (I.ok.hd hc) D h1 h2 h3 h4 h5 p1.isList p2.isList ?_ λh' z7=>⟨rfl,?_⟩
  ·rcases hl with hl|hl
   ·left;simp;omega
   ·right;simp;omega
  ·have kp:∀c o,c∉[z,TI,TO,i1,i2]->s.heap.get? c=some o->h'.get? c=some o:=λc o hn e=>by
    simp only[wI,wT,or_false,not_or]at hn;exact z7 c o hn.1 hn.2.2.1 hn.2.2.2.1 hn.2.2.2.2 e
   refine I.step (g':=s.gens) (d':=s.drawn) (t':=s.toks) (ch:=[z,TI,TO,i1,i2]) (λb hb=>⟨(hf b hb).2.2.2.1,(hf b hb).2.1,(hf b hb).2.2.2.2.1,(hf b hb).2.2.2.2.2⟩) (λb o _ _ hc e _=>kp b o hc e) (λb o _ _ hc e _=>⟨o.slots,kp b o hc e⟩)
    (λb o _ e n=>n) (λb o hc e=>⟨o,kp b o hc e⟩) (λb ys e=>e) (λb o u e=>e) (λb ps e=>⟨#[],by rw[e];simp⟩) (λm hm=>?_) (λb u e=>?_) I.bare
   ·obtain⟨o,es,ep,ho,r⟩:=hm;exact⟨o,es,ep,kp _ o (λz=>(hf _ z).2.1 rfl) ho,r⟩
   ·have nc:∀c u,H c=some u->c∉[z,TI,TO,i1,i2]:=λc u q z=>by rw[(hf c z).1]at q;cases q
    refine(I.hok b u e).stay (λc v hc q=>kp c v ?_ q) (λc q=>q) λc ys q=>q;rcases hc with z|z
    ·rw[z];exact nc b u e
    ·exact nc c _ z
 self:=λ_ _ _ _ _ st h=>wpAny_pyIter_zip st.1 h
noncomputable def qGV(K:PySem.W.Frag)(ta:TA):_L.TI:=λσ H R=>ta σ H λvs H1=>∃a b,vs=[.ref a,.ref b]/\(∃xs,SqL K H1 a xs)/\(∃ys,SqL K H1 b ys)/\R (Itz K a b) H1
theorem qB3{X:Cx}{ea eb:Expr}{ta:TA}{p pos tpos:Pos}{elts:List Expr}{kk:Nat}(hg:_L.Gl X "zip")(hm:X.mg "zip"=none)(ha:PA X [ea,eb] ta)(h1:qN ea=true)(h2:qN eb=true):
  _L._P X (.Tuple elts kk tpos) (.Call (.Name "zip" p) [ea,eb] [] pos) (qGV X.K ta):=by
 intro pins s σ H R I h;refine Call_ (_L.ld_blt I hg hm PyProof.Rows.boot_zip (PyProof.Rows.callWith_type1 (_L.thn (ha pos pins s σ H _ I h) λus s1 ⟨vs,H1,I1,r1,q1⟩=>?_) (qC h1) (zd (by simp[h2]))));obtain⟨a,b,e,⟨xs,hq1⟩,⟨ys,hq2⟩,q⟩:=q1;subst e;cases r1 with
 |cons r rr=>
  cases rr with
  |cons r' rr=>
   cases rr;cases r;cases r';obtain⟨its1,rv1,p1,_⟩:=I1.list hq1;obtain⟨its2,rv2,p2,_⟩:=I1.list hq2;have a1:a<s1.heap.objs.size:=by obtain⟨_,e,_⟩:=p1.isList;exact Heap.lt_size e
   have a2:b<s1.heap.objs.size:=by obtain⟨_,e,_⟩:=p2.isList;exact Heap.lt_size e
   refine call_zip_2 p1.isList p2.isList λh' hz hTI hTO hi1 hi2 _ hk=>?_;refine wpAny_pyIter_zip hz ?_;have I2:Inv X pins σ H1 { s1 with heap:=h' }:=I1.kept (t':=s1.toks) hk;refine⟨_,_,_,_,H1,rfl,I2,j3 _ _ _ _ _ a b (zipApart_new a1 a2),⟨hz,hTI,⟨_,_,hTO⟩,hi1,hi2⟩,λc hc=>?_,q⟩;have hge:s1.heap.objs.size<=c:=by
    simp only[wI,wT,or_false]at hc;rcases hc with rfl|rfl|rfl|rfl|rfl
    ·exact vR _ 4
    ·exact vR _ 2
    ·exact vR _ 3
    ·exact wF _
    ·exact vR _ 1
   exact I1.fpOk hge (I1.hok.fresh hge)
abbrev Tu(h:Heap)(T:Addr)(vs:Array Value):Prop:=h.get? T=some { cls:=.type "tuple",data:=.seq vs }
section
variable{P:Program}{w:World}{A:Around}{E:Value->Shared->Prop}{s:Shared}{z ti to i1 i2 i3 a b c:Addr}{f0:Value}{k1 k2 k3:Nat}{xs ys us:Array Value}{p q r:Value}
def Kp(z to i1 i2 i3:Addr)(h g:Heap):Prop:=g.objs.size=h.objs.size/\∀c o,c∉[z,to,i1,i2,i3]->h.get? c=some o->g.get? c=some o
theorem Kp.step{h g g':Heap}{d:Addr}(k:Kp z to i1 i2 i3 h g)(hd:d∈[z,to,i1,i2,i3])(e:Heap.SameBut d g g'):Kp z to i1 i2 i3 h g':=
 ⟨by rw[e.1,k.1],λc o hc ho=>e.extBut c o (λx=>hc (x ▸ hd)) (k.2 c o hc ho)⟩
end
noncomputable def Ite(K:PySem.W.Frag)(a:Addr):It:=
 ⟨λi H=>∃xs x,SqL K H a xs/\xs[i]?=some x,
  λi H v H'=>∃p x,H p=none/\v=.ref p/\H'=upd H p (.tup [.int (i:Int),x])/\∀xs,SqL K H a xs->xs[i]?=some x,
  λi H=>∃xs,SqL K H a xs/\xs.length<=i⟩
theorem P0{P:Program}{w:World}{K:PySem.W.Frag}{elts:List Expr}{kk:Nat}{tpos:Pos}(e it a:Addr)(hei:e≠it):
  Zk P w K (.Tuple elts kk tpos) (Ite K a) [e,it] e (λi h=>(∃old,IsEnum h e it i old)/\h.IsListIter it a i) where
 mem:=by simp
 obj:=λi h st c hc=>by
  obtain⟨⟨old,h1⟩,⟨o4,e4,c4,d4⟩⟩:=st;simp only[wI,wT,or_false]at hc;rcases hc with rfl|rfl
  ·exact⟨_,h1,λv q=>by have q':Data.fields _=Data.cell v:=q;cases q'⟩
  ·exact⟨o4,e4,λv q=>by rw[d4]at q;cases q⟩
 keep:=λi h h' st k=>by
  obtain⟨⟨old,h1⟩,h4⟩:=st;exact⟨⟨old,k e (by simp) _ h1⟩,h4.at λo x=>k it (by simp) o x⟩
 item:=by
  intro X hP hw hK hc i pins s σ H E I hf st hg;subst hP hw hK;obtain⟨xs,x,hq1,hx⟩:=hg;obtain⟨its1,rv1,p1,_⟩:=I.list hq1;obtain⟨u,hu,ru⟩:=rv1.get hx;obtain⟨⟨old,h1⟩,h4⟩:=st;refine wpAny_pyNext_enum_item h1 h4 p1.isList (x:=u) (by simpa using hu) hei λh' z1 z3 z5 z6 z7=>?_;refine⟨_,rfl,wpAny_letOwnedTupleGo_enum z1 λh'' g1 gs=>?_⟩;have lt:∀c∈[e,it],c≠s.heap.objs.size:=λc hc=>by
   have ex:∃o,s.heap.get? c=some o:=by
    simp only[wI,wT,or_false]at hc;rcases hc with rfl|rfl
    ·exact⟨_,h1⟩
    ·obtain⟨o,e,_⟩:=h4;exact⟨o,e⟩
   obtain⟨o,e⟩:=ex;exact wR (Heap.lt_size e)
  have up:∀c o,c≠e->h'.get? c=some o->h''.get? c=some o:=λc o hz q=>gs.extBut c o hz q;have kp:∀c o,c∉[e,it]->s.heap.get? c=some o->h''.get? c=some o:=λc o hn q=>by
   simp only[wI,wT,or_false,not_or]at hn;exact up c o hn.1 (z7 c o hn.1 hn.2 q)
  have ht:IsTup h'' s.heap.objs.size #[.int i s.toks,u]:=⟨_,up _ _ (Ne.symm (lt e (by simp))) z5,rfl,_,rfl⟩
  have I1:=T6 (t':=s.toks+1) (xs:=[.int (i:Int),x]) (its:=[.int i s.toks,u]) I hf (wF _) kp ht (.cons ⟨_,rfl⟩ (.cons ru .nil)) (by show 2<=sizeLine;decide) (λq=>lt _ q rfl);refine⟨.ref s.heap.objs.size,_,I1,rfl,⟨s.heap.objs.size,x,I.hok.fresh (wF _),rfl,rfl,λzs hz=>by rw[I.list_inj hz hq1];exact hx⟩,
   ⟨⟨_,by simpa using g1⟩,z3.at λo q=>up _ o (Ne.symm hei) q⟩,λc hc=>?_⟩
  rw[qG (lt c hc)];exact(hf c hc).1
 done:=by
  intro X hP hw hK hc i pins s σ H E I hf st hg;subst hP hw hK;obtain⟨xs,hq1,hl⟩:=hg;obtain⟨its1,rv1,p1,_⟩:=I.list hq1;obtain⟨⟨old,h1⟩,h4⟩:=st;have n1:=rv1.length;obtain⟨f0,f1,f2,f3,f4,f5⟩:=hf it (by simp);exact wpAny_pyNext_enum_end (I.ok.hd hc) h1 h4 p1.isList (by simp;omega) λh' eb=>⟨rfl,I.turned (t':=s.toks) (λb o hb q=>eb b o hb q) f0 f1 f3 f4 f5⟩
 self:=λ_ i s Q E st hQ=>by
  obtain⟨⟨old,h1⟩,h4⟩:=st;exact wpAny_pyIter_enum h1 hQ
noncomputable def qDW(K:PySem.W.Frag)(ta:TA):_L.TI:=λσ H R=>ta σ H λvs H1=>∃a,vs=[.ref a]/\(∃xs,SqL K H1 a xs)/\R (Ite K a) H1
theorem qAb{X:Cx}{ea:Expr}{ta:TA}{p pos tpos:Pos}{elts:List Expr}{kk:Nat}(hg:_L.Gl X "enumerate")(hm:X.mg "enumerate"=none)(ha:PA X [ea] ta)(h1:qN ea=true):
  _L._P X (.Tuple elts kk tpos) (.Call (.Name "enumerate" p) [ea] [] pos) (qDW X.K ta):=by
 intro pins s σ H R I h;refine Call_ (_L.ld_blt I hg hm PyProof.Rows.boot_enumerate (PyProof.Rows.callWith_type1 (_L.thn (ha pos pins s σ H _ I h) λus s1 ⟨vs,H1,I1,r1,q1⟩=>?_) (qC h1) (zd (by simp))));obtain⟨a,e,⟨xs,hq1⟩,q⟩:=q1;subst e;cases r1 with
 |cons r rr=>
  cases rr;cases r;obtain⟨its1,rv1,p1,_⟩:=I1.list hq1;refine call_enumerate_list p1.isList λh' he hi hsz hk=>?_;refine wpAny_pyIter_enum he ?_;have I2:Inv X pins σ H1 { s1 with heap:=h' }:=I1.kept (t':=s1.toks) hk;refine⟨_,_,_,_,H1,rfl,I2,P0 _ _ a (Nat.succ_ne_self _),⟨⟨_,he⟩,hi⟩,λc hc=>?_,q⟩;have hge:s1.heap.objs.size<=c:=by
   simp only[wI,wT,or_false]at hc;rcases hc with rfl|rfl
   ·exact vR _ 1
   ·exact wF _
  exact I1.fpOk hge (I1.hok.fresh hge)
noncomputable def Itd(lo:Int)(n:Nat):It:=⟨λi _=>i<n,λi H x H'=>H'=H/\x=.int (lo-(i:Int)),λi _=>n<=i⟩
theorem X5{P:Program}{w:World}{K:PySem.W.Frag}{tg:Expr}(it:Addr)(lo:Int)(n:Nat):Zk P w K tg (Itd lo n) [it] it (λi h=>IsRangeIter h it (lo+(i:Nat)*(-1)) ((n:Int)-(i:Nat)) (-1)) where
 mem:=by simp
 obj:=λi h st b hb=>by
  have e:b=it:=by simpa using hb
  subst e;exact⟨_,st,λv z=>by
   have z':Data.fields _=Data.cell v:=z;cases z'⟩
 keep:=λi h h' st k=>k it (by simp) _ st
 item:=by
  intro X hP hw hK hc i pins s σ H E I hf st hg;subst hP hw hK;obtain⟨f0,f1,f2,f3,f4,f5⟩:=hf it (by simp);have W:=Walks.range (prog:=X.prog) (w:=X.w) (I.ok.hd hc) it lo (-1) n;refine W.item i s _ _ hg st λv h' tk hv st' kk=>?_;obtain⟨t,rfl⟩:=hv;have I1:Inv X pins σ H { s with heap:=h',toks:=tk }:=I.turned (λb o hb e=>kk b o (by simpa using hb) e) f0 f1 f3 f4 f5;refine⟨_,rfl,_L.go_of (s:={ s with heap:=h',toks:=tk }) (n:="range_iterator") st' rfl rfl (by decide) ⟨.int (lo-i),H,I1,⟨t,?_⟩,⟨rfl,rfl⟩,st',λb hb=>(hf b hb).1⟩⟩;congr 1;omega
 done:=by
  intro X hP hw hK hc i pins s σ H E I hf st hg;subst hP hw hK;obtain⟨f0,f1,f2,f3,f4,f5⟩:=hf it (by simp);exact wpAny_pyNext_range_end (I.ok.hd hc) st (by have:n<=i:=hg;omega) λh' eb=>⟨rfl,I.turned (t':=s.toks) (λb o hb e=>eb b o hb e) f0 f1 f3 f4 f5⟩
 self:=λ_ _ _ _ _ st h=>wpAny_pyIter_rangeiter st h
theorem Jh(lo hi:Int):Builtin.Range.rangeSize lo hi (-1)=(((lo-hi).toNat:Nat):Int):=by
 unfold Builtin.Range.rangeSize;simp;split<;>omega
theorem M7{i j:Int}(h1:-1000000<=i)(h2:i<=1000000)(h3:-1000000<=j)(h4:j<=1000000):Builtin.Range.small i j (-1)=true:=by
 unfold Builtin.Range.small;rw[Jh];simp only[Builtin.Range.rangeFitsLong,wB,wv,vj,beq_iff_eq,show ¬ ((-1:Int)>0) by decide,if_false]
 (repeat' split)<;>omega
noncomputable def qD3(ta:TA):_L.TI:=λσ H R=>ta σ H λvs H1=>∃i j:Int,vs=[.int i,.int j,.int (-1)]/\(-1000000<=i/\i<=1000000/\-1000000<=j/\j<=1000000)/\R (Itd i (i-j).toNat) H1
theorem P3{X:Cx}{tg a b c:Expr}{ta:TA}{p pos:Pos}(hg:_L.Gl X "range")(hm:X.mg "range"=none)(ha:PA X [a,b,c] ta)(h1:qN a=true)(h2:qN b=true)(h3:qN c=true):
  _L._P X tg (.Call (.Name "range" p) [a,b,c] [] pos) (qD3 ta):=by
 intro pins s σ H R I h;refine Call_ (_L.ld_blt I hg hm PyProof.Rows.boot_range (PyProof.Rows.callWith_type1 (_L.thn (ha pos pins s σ H _ I h) λus s1 ⟨vs,H1,I1,r1,q1⟩=>?_) (qC h1) (zd (by simp[h2,h3]))));obtain⟨i,j,e,⟨q1,q2,q3,q4⟩,q⟩:=q1;subst e;cases r1 with
 |cons r rr=>
  cases rr with
  |cons r' rr=>
   cases rr with
   |cons r'' rr=>
    cases rr;obtain⟨t,rfl⟩:=r;obtain⟨t',rfl⟩:=r';obtain⟨t'',rfl⟩:=r'';refine call_range_3 (by decide) ?_ (Or.inl (PyProof.noPylong_small (by omega)));refine wpAny_pyIter_range (IsRange.new ..) (M7 q1 q2 q3 q4) ?_;have I2:Inv X pins σ H1 { s1 with heap:=s1.heap.push { cls:=.type "range",data:=.fields #[.int i t,.int j t',.int (-1) t''] },toks:=s1.toks }:=I1.kept λb o e=>Heap.get?_push_of_some _ e;refine⟨(s1.heap.push { cls:=.type "range",data:=.fields #[.int i t,.int j t',.int (-1) t''] }).objs.size,[(s1.heap.push { cls:=.type "range",data:=.fields #[.int i t,.int j t',.int (-1) t''] }).objs.size],_,_,H1,rfl,
     I2.kept (t':=s1.toks) λb o e=>Heap.get?_push_of_some _ e,X5 _ i (i-j).toNat,?_,λb hb=>?_,q⟩
    ·show IsRangeIter _ _ (i+((0:Nat):Int)*(-1)) ((((i-j).toNat:Nat):Int)-((0:Nat):Int)) (-1);have e1:i+((0:Nat):Int)*(-1)=i:=by simp
     have e2:(((i-j).toNat:Nat):Int)-((0:Nat):Int)=Builtin.Range.rangeSize i j (-1):=by rw[Jh];simp
     rw[e1,e2];exact Heap.get?_push_size _ rfl
    ·have e:b=(s1.heap.push { cls:=.type "range",data:=.fields #[.int i t,.int j t',.int (-1) t''] }).objs.size:=by simpa using hb
     subst e;exact I2.fpOk (wF _) (I2.hok.fresh (wF _))
open _L (PGs TG TGs Itl Itt O0)
section
variable (K:PySem.W.Frag)(G:List Addr)
noncomputable def tG(g:Tg):TG:=λv σc H Q=>∃φ h σ w σ',Rl K G φ h H/\rst φ σ σc/\rv φ w v/\store g w σ h=some σ'/\∀σc',rst φ σ' σc'->Q σc' H
noncomputable def tGs(is:List Nat):TGs:=λvs σc H Q=>∃φ σ ws σ',rst φ σ σc/\rvs φ ws vs/\Qv is ws σ=some σ'/\∀σc',rst φ σ' σc'->Q σc' H
end
section
variable{X:Cx}{G:List Addr}{F:Nat->List V->AH->RV}
theorem qCf{e:Expr}{t t':TG}(h:PG X e t)(w:∀v σ H Q,t' v σ H Q->t v σ H Q):PG X e t':=λpins s σ H v u Q I r q=>h pins s σ H v u Q I r (w v σ H Q q)
theorem q9{e:List Expr}{t t':TGs}(h:PGs X e t)(w:∀v σ H Q,t' v σ H Q->t v σ H Q):PGs X e t':=λpins s σ H v u Q I r q=>h pins s σ H v u Q I r (w v σ H Q q)
variable (X G) in
abbrev SG(e:Expr)(g:Tg):Prop:=PG X e (tG X.K G g)
theorem U0{i:Nat}{x:Str}{pos:Pos}(hN:X.N.Nodup)(hi:X.N[i]?=some x)(hx:_L.Loc X.env.scope x)(hf:X.fn x=true\/X.env.scope.names.lookup x=some .local):SG X G (.Name x pos) (.name i):=by
 refine qCf (_L.pg_name hN hi hx hf) λv σc H Q q=>?_;obtain⟨φ,h,σ,w,σ',R,rs,r,e,k⟩:=q;unfold store at e;cases e;exact k _ (zK (R:=ropt φ) (show ropt φ (some w) (some v) from⟨v,rfl,r⟩) i rs)
theorem qAp:PGs X [] (tGs []):=by
 refine q9 _L.pgs_nil λvs σc H Q q=>?_;obtain⟨φ,σ,ws,σ',rs,r,e,k⟩:=q;cases ws with
 |nil=>
  cases r;cases e;exact⟨rfl,k _ rs⟩
 |cons _ _=>cases e
theorem c7{i:Nat}{is:List Nat}{x:Str}{pos:Pos}{es:List Expr}(hN:X.N.Nodup)(hi:X.N[i]?=some x)(hx:_L.Loc X.env.scope x)(hf:X.fn x=true\/X.env.scope.names.lookup x=some .local)(hs:PGs X es (tGs is)):
  PGs X (.Name x pos::es) (tGs (i::is)):=by
 refine q9 (_L.pgs_cons (_L.pg_name hN hi hx hf) hs rfl) λvs σc H Q q=>?_;obtain⟨φ,σ,ws,σ',rs,r,e,k⟩:=q;cases ws with
 |nil=>cases e
 |cons w ws=>
  cases r with
  |cons r1 rr=>exact⟨_,_,rfl,φ,_,ws,σ',zK (R:=ropt φ) (show ropt φ (some w) (some _) from⟨_,rfl,r1⟩) i rs,rr,e,k⟩
theorem ZM:∀{is:List Nat}{xs:List V}{σ σ':St},Qv is xs σ=some σ'->xs.length=is.length
 | [],[],_,_,_=>rfl
 | [],_::_,_,_,e=>by cases e
 |_::_,[],_,_,e=>by cases e
 |i::is,x::xs,σ,σ',e=>by
  have:=ZM (show Qv is xs _=some σ' from e);simp[this]
theorem qCr{is:List Nat}{es:List Expr}{k:Nat}{pos:Pos}(hc:X.calm=true)(h:PGs X es (tGs is))(hn:(assignEach es X.env).length=is.length)(hst:(assignEach es X.env).findIdx? (·.1)=none):SG X G (.Tuple es k pos) (.tup is):=by
 refine qCf (_L.pg_tup hc h hn hst) λv σc H Q q=>?_;obtain⟨φ,h,σ,w,σ',R,rs,r,e,k⟩:=q;cases w with
 |ref a=>
  unfold store at e;dsimp only at e;split at e
  ·rename_i xs ex;obtain⟨p,zs,hp,hs,rz⟩:=R.tup ex;obtain⟨q,rfl,hq⟩:=qI r;rw[hp]at hq;cases hq;exact⟨_,zs,rfl,hs,by rw[<-Paired.length rz];exact ZM e,φ,σ,xs,σ',rs,rz,e,k⟩
  ·cases e
 |_=>cases e
def IsJ(K:PySem.W.Frag)(φ:List Addr):Src->It->Prop
 | .list p,J=>∃a,φ[p]?=some a/\J=Itl K a
 | .tupl p,J=>∃a,φ[p]?=some a/\J=Itt K a
 | .rng lo n,J=>J=_L.Itr lo n
 | .zip p q,J=>∃a b,φ[p]?=some a/\φ[q]?=some b/\J=Itz K a b
 | .enum p,J=>∃a,φ[p]?=some a/\J=Ite K a
 | .rngd lo n,J=>J=Itd lo n
theorem IsJ.mono{K:PySem.W.Frag}{φ φ':List Addr}(x:Ext φ φ'):∀{s:Src}{J:It},IsJ K φ s J->IsJ K φ' s J
 | .list _,_,⟨a,h,e⟩=>⟨a,x.get h,e⟩
 | .tupl _,_,⟨a,h,e⟩=>⟨a,x.get h,e⟩
 | .rng _ _,_,e=>e
 | .zip _ _,_,⟨a,b,h,g,e⟩=>⟨a,b,x.get h,x.get g,e⟩
 | .enum _,_,⟨a,h,e⟩=>⟨a,x.get h,e⟩
 | .rngd _ _,_,e=>e
section
variable{K:PySem.W.Frag}{φ:List Addr}{h h1:AH}{H H':Hp}{s:Src}{J:It}{i:Nat}{x v:V}
theorem IsJ.stop(j:IsJ K φ s J)(R:Rl K G φ h H)(e:jE h i s=true):J.stop i H:=by
 cases s with
 |list p=>
  obtain⟨a,ha,rfl⟩:=j;unfold jE at e;dsimp only at e;split at e
  ·rename_i xs ex;obtain⟨q,zs,hq,hs,rz⟩:=R.lst ex;rw[ha]at hq;cases hq;exact⟨zs,hs,by rw[<-Paired.length rz];exact vm e⟩
  ·cases e
 |tupl p=>
  obtain⟨a,ha,rfl⟩:=j;unfold jE at e;dsimp only at e;split at e
  ·rename_i xs ex;obtain⟨q,zs,hq,hs,rz⟩:=R.tup ex;rw[ha]at hq;cases hq;exact⟨zs,hs,by rw[<-Paired.length rz];exact vm e⟩
  ·cases e
 |rng lo n=>
  cases j;show n<=i;exact vm e
 |zip p q=>
  obtain⟨a,b,ha,hb,rfl⟩:=j;unfold jE at e;dsimp only at e;split at e
  ·rename_i xs ys ex ey;obtain⟨a',zs,hq,hs,rz⟩:=R.lst ex;obtain⟨b',ws,hq',hs',rz'⟩:=R.lst ey;rw[ha]at hq;cases hq;rw[hb]at hq';cases hq';exact⟨zs,ws,hs,hs',by rw[<-Paired.length rz,<-Paired.length rz'];exact vm e⟩
  ·cases e
 |enum p=>
  obtain⟨a,ha,rfl⟩:=j;unfold jE at e;dsimp only at e;split at e
  ·rename_i xs ex;obtain⟨q,zs,hq,hs,rz⟩:=R.lst ex;rw[ha]at hq;cases hq;exact⟨zs,hs,by rw[<-Paired.length rz];exact vm e⟩
  ·cases e
 |rngd lo n=>
  cases j;show n<=i;exact vm e
theorem IsJ.go(j:IsJ K φ s J)(R:Rl K G φ h H)(e:qd h i s=some (x,h1)):J.go i H:=by
 cases s with
 |list p=>
  obtain⟨a,ha,rfl⟩:=j;unfold qd at e;dsimp only at e;split at e
  ·rename_i xs ex;obtain⟨y,ey,e2⟩:=wA.mp e;obtain⟨q,zs,hq,hs,rz⟩:=R.lst ex;rw[ha]at hq;cases hq;obtain⟨z,hz,_⟩:=qJ rz ey;exact⟨zs,z,hs,hz⟩
  ·cases e
 |tupl p=>
  obtain⟨a,ha,rfl⟩:=j;unfold qd at e;dsimp only at e;split at e
  ·rename_i xs ex;obtain⟨y,ey,e2⟩:=wA.mp e;obtain⟨q,zs,hq,hs,rz⟩:=R.tup ex;rw[ha]at hq;cases hq;obtain⟨z,hz,_⟩:=qJ rz ey;exact⟨zs,z,hs,hz⟩
  ·cases e
 |rng lo n=>
  cases j;unfold qd at e;dsimp only at e;split at e
  ·rename_i hl;exact hl
  ·cases e
 |zip p q=>
  obtain⟨a,b,ha,hb,rfl⟩:=j;unfold qd at e;dsimp only at e;split at e
  ·rename_i xs ys ex ey;split at e
   ·rename_i u w eu ew;obtain⟨a',zs,hq,hs,rz⟩:=R.lst ex;obtain⟨b',ws,hq',hs',rz'⟩:=R.lst ey;rw[ha]at hq;cases hq;rw[hb]at hq';cases hq';obtain⟨z,hz,_⟩:=qJ rz eu;obtain⟨z',hz',_⟩:=qJ rz' ew;exact⟨zs,ws,z,z',hs,hs',hz,hz'⟩
   ·cases e
  ·cases e
 |enum p=>
  obtain⟨a,ha,rfl⟩:=j;unfold qd at e;dsimp only at e;split at e
  ·rename_i xs ex;obtain⟨y,ey,e2⟩:=wA.mp e;obtain⟨q,zs,hq,hs,rz⟩:=R.lst ex;rw[ha]at hq;cases hq;obtain⟨z,hz,_⟩:=qJ rz ey;exact⟨zs,z,hs,hz⟩
  ·cases e
 |rngd lo n=>
  cases j;unfold qd at e;dsimp only at e;split at e
  ·rename_i hl;exact hl
  ·cases e
theorem IsJ.yld(j:IsJ K φ s J)(R:Rl K G φ h H)(e:qd h i s=some (x,h1))(y:J.yld i H v H'):∃φ',Ext φ φ'/\Rl K G φ' h1 H'/\rv φ' x v:=by
 cases s with
 |list p=>
  obtain⟨a,ha,rfl⟩:=j;unfold qd at e;dsimp only at e;split at e
  ·rename_i xs ex;obtain⟨y',ey,e2⟩:=wA.mp e;cases e2;obtain⟨q,zs,hq,hs,rz⟩:=R.lst ex;rw[ha]at hq;cases hq;obtain⟨z,hz,rz'⟩:=qJ rz ey;obtain⟨rfl,k⟩:=y;have:=k zs hs;rw[hz]at this;cases this;exact⟨φ,.refl _,R,rz'⟩
  ·cases e
 |tupl p=>
  obtain⟨a,ha,rfl⟩:=j;unfold qd at e;dsimp only at e;split at e
  ·rename_i xs ex;obtain⟨y',ey,e2⟩:=wA.mp e;cases e2;obtain⟨q,zs,hq,hs,rz⟩:=R.tup ex;rw[ha]at hq;cases hq;obtain⟨z,hz,rz'⟩:=qJ rz ey;obtain⟨rfl,k⟩:=y;have:=k zs hs;rw[hz]at this;cases this;exact⟨φ,.refl _,R,rz'⟩
  ·cases e
 |rng lo n=>
  cases j;unfold qd at e;dsimp only at e;split at e
  ·cases e;obtain⟨rfl,rfl⟩:=y;exact⟨φ,.refl _,R,rfl⟩
  ·cases e
 |zip p q=>
  obtain⟨a,b,ha,hb,rfl⟩:=j;unfold qd at e;dsimp only at e;split at e
  ·rename_i xs ys ex ey;split at e
   ·rename_i u w eu ew;cases e;obtain⟨a',zs,hq,hs,rz⟩:=R.lst ex;obtain⟨b',ws,hq',hs',rz'⟩:=R.lst ey;rw[ha]at hq;cases hq;rw[hb]at hq';cases hq';obtain⟨z,hz,r1⟩:=qJ rz eu;obtain⟨z',hz',r2⟩:=qJ rz' ew;obtain⟨p',x',y',hn,rfl,rfl,k1,k2⟩:=y;have t1:=k1 zs hs;have t2:=k2 ws hs';rw[hz]at t1;cases t1;rw[hz']at t2;cases t2;exact⟨φ++[p'],⟨[p'],rfl⟩,R.newT hn (.cons r1 (.cons r2 .nil)),R.lastRef⟩
   ·cases e
  ·cases e
 |enum p=>
  obtain⟨a,ha,rfl⟩:=j;unfold qd at e;dsimp only at e;split at e
  ·rename_i xs ex;obtain⟨y',ey,e2⟩:=wA.mp e;cases e2;obtain⟨q,zs,hq,hs,rz⟩:=R.lst ex;rw[ha]at hq;cases hq;obtain⟨z,hz,r1⟩:=qJ rz ey;obtain⟨p',x',hn,rfl,rfl,k⟩:=y;have:=k zs hs;rw[hz]at this;cases this;exact⟨φ++[p'],⟨[p'],rfl⟩,R.newT hn (.cons rfl (.cons r1 .nil)),R.lastRef⟩
  ·cases e
 |rngd lo n=>
  cases j;unfold qd at e;dsimp only at e;split at e
  ·cases e;obtain⟨rfl,rfl⟩:=y;exact⟨φ,.refl _,R,rfl⟩
  ·cases e
end
variable (G F) in
noncomputable def tI(K:PySem.W.Frag)(it:Itr):_L.TI:=λσc H R=>∃φ h σ s h',Rl K G φ h H/\rst φ σ σc/\evi F it σ h=.ok (s,h')/\∀φ' H' J,Ext φ φ'->Rl K G φ' h' H'->IsJ K φ' s J->R J H'
variable (X G F) in
abbrev SI(tg iter:Expr)(it:Itr):Prop:=_L._P X tg iter (tI G F X.K it)
theorem L6{tg e:Expr}{t t':_L.TI}(h:_L._P X tg e t)(w:∀σ H Q,t' σ H Q->t σ H Q):_L._P X tg e t':=λpins s σ H Q I q=>h pins s σ H Q I (w σ H Q q)
variable{a b:E}{ea eb tg:Expr}{pos p:Pos}
noncomputable def qFv(K:PySem.W.Frag)(tl:TE):_L.TI:=λσ H R=>tl σ H λx H1=>∃a,x=.ref a/\(((∃xs,SqL K H1 a xs)/\R (Itl K a) H1)\/((∃xs,SqT K H1 a xs)/\R (Itt K a) H1))
theorem qCv{l:Expr}{tl:TE}(hl:PE X l tl):_L._P X tg l (qFv X.K tl):=by
 intro pins s σ H R I h;refine _L.thn (hl pins s σ H _ I h) λv s1 ⟨x,H1,I1,r1,q1⟩=>?_;obtain⟨a,e,q⟩:=q1;subst e;cases r1;rcases q with⟨⟨xs,hq⟩,q⟩|⟨⟨xs,hq⟩,q⟩
 ·obtain⟨its,rv,p,hz⟩:=I1.list hq;refine wpAny_pyIter_list p.isList ?_;refine⟨s1.heap.objs.size,[s1.heap.objs.size],_,_,H1,rfl,I1.kept (t':=s1.toks) λb o e=>Heap.get?_push_of_some _ e,_L.turn_list a _,⟨_,Heap.get?_push_size _ rfl,rfl,rfl⟩,λb hb=>?_,q⟩;have e:b=s1.heap.objs.size:=by simpa using hb
  subst e;exact I1.fpOk (wF _) (I1.hok.fresh (wF _))
 ·obtain⟨its,rv,p,hz⟩:=I1.tuple hq;refine wpAny_pyIter_tuple (show s1.heap.IsTuple a its.toArray from p) ?_;refine⟨s1.heap.objs.size,[s1.heap.objs.size],_,_,H1,rfl,I1.kept (t':=s1.toks) λb o e=>Heap.get?_push_of_some _ e,_L.turn_tuple a _,⟨_,Heap.get?_push_size _ rfl,rfl,rfl⟩,λb hb=>?_,q⟩;have e:b=s1.heap.objs.size:=by simpa using hb
  subst e;exact I1.fpOk (wF _) (I1.hok.fresh (wF _))
theorem S6(ha:SE X G F ea a):SI X G F tg ea (.list a):=by
 refine L6 (qCv ha) λσc H Q q=>?_;obtain⟨φ,h,σ,s,h',R,rs,e,k⟩:=q;unfold evi at e;obtain⟨⟨x,h1⟩,e1,e⟩:=tN e;refine⟨φ,h,σ,x,h1,R,rs,e1,λφ1 H1 w x1 R1 r1=>?_⟩;cases x with
 |ref p=>
  dsimp only at e;cases ey:h1[p]? with
  |none=>rw[ey]at e;cases e
  |some o=>
   cases o with
   |lst fz ys=>
    rw[ey]at e;cases e;obtain⟨q,zs,hq,hs,rz⟩:=R1.lst (i:=p) (xs:=ys) (by unfold qH;rw[ey]);obtain⟨q',rfl,hq'⟩:=qI r1;rw[hq]at hq';cases hq';exact⟨_,rfl,.inl ⟨⟨zs,hs⟩,k φ1 H1 _ x1 R1 ⟨_,hq,rfl⟩⟩⟩
   |tup ys=>
    rw[ey]at e;cases e;obtain⟨q,zs,hq,hs,rz⟩:=R1.tup (i:=p) (xs:=ys) (by unfold qU;rw[ey]);obtain⟨q',rfl,hq'⟩:=qI r1;rw[hq]at hq';cases hq';exact⟨_,rfl,.inr ⟨⟨zs,hs⟩,k φ1 H1 _ x1 R1 ⟨_,hq,rfl⟩⟩⟩
   |ob ks=>rw[ey]at e;cases e
 |_=>cases e
theorem qA9(hg:_L.Gl X "range")(hm:X.mg "range"=none)(hn:qN ea=true)(ha:SE X G F ea a):SI X G F tg (.Call (.Name "range" p) [ea] [] pos) (.rng1 a):=by
 refine L6 (_L.pi_range1 hg hm (_L.pa_cons ha _L.pa_nil (qC hn)) (qC hn)) λσc H Q q=>?_;obtain⟨φ,h,σ,s,h',R,rs,e,k⟩:=q;unfold evi at e;obtain⟨⟨x,h1⟩,e1,e⟩:=tN e;refine⟨φ,h,σ,x,h1,R,rs,e1,λφ1 H1 w x1 R1 r1=>?_⟩;cases x with
 |int j=>
  dsimp only at e;split at e
  ·rename_i hj;cases e;cases qB r1;exact⟨j,rfl,by omega,by omega,k φ1 H1 _ x1 R1 rfl⟩
  ·cases e
 |_=>cases e
theorem qAm(hg:_L.Gl X "range")(hm:X.mg "range"=none)(hn:qN ea=true)(hn2:qN eb=true)(ha:SE X G F ea a)(hb:SE X G F eb b):SI X G F tg (.Call (.Name "range" p) [ea,eb] [] pos) (.rng2 a b):=by
 refine L6 (_L.pi_range2 hg hm (_L.pa_cons ha (_L.pa_cons hb _L.pa_nil (qC hn2)) (qC hn)) (by rw[qC hn,qC hn2];rfl) (qC hn2)) λσc H Q q=>?_;obtain⟨φ,h,σ,s,h',R,rs,e,k⟩:=q;unfold evi at e;obtain⟨⟨x,h1⟩,e1,e⟩:=tN e;obtain⟨⟨y,h2⟩,e2,e⟩:=tN e;refine zv R rs e1 e2 λφ2 H2 xc yc x2 R2 r1 r2=>?_;cases x with
 |int i=>
  cases y with
  |int j=>
   dsimp only at e;split at e
   ·rename_i hj;cases e;cases qB r1;cases qB r2;exact⟨i,j,rfl,⟨by omega,by omega,by omega,by omega⟩,k φ2 H2 _ x2 R2 rfl⟩
   ·cases e
  |_=>cases e
 |_=>cases e
noncomputable def E.isM1:E->Bool
 | .neg (.cst (.int i))=>i==1
 |_=>false
theorem qDq{F:Nat->List V->AH->RV}{c:E}{σ:St}{h:AH}(e:c.isM1=true):ev F c σ h=.ok (.int (-1),h):=by
 unfold E.isM1 at e;split at e
 ·have:=eq_of_beq e;subst this;rfl
 ·cases e
theorem qAv{ec:Expr}{c:E}(hg:_L.Gl X "range")(hm:X.mg "range"=none)(hn:qN ea=true)(hn2:qN eb=true)(hn3:qN ec=true)(ha:SE X G F ea a)(hb:SE X G F eb b)(hc:SE X G F ec c)(h1:c.isM1=true):SI X G F tg (.Call (.Name "range" p) [ea,eb,ec] [] pos) (.rng3 a b):=by
 refine L6 (P3 hg hm (_L.pa_cons ha (_L.pa_cons hb (_L.pa_cons hc _L.pa_nil (qC hn3)) (qC hn2)) (qC hn)) hn hn2 hn3) λσc H Q q=>?_;obtain⟨φ,h,σ,s,h',R,rs,e,k⟩:=q;unfold evi at e;obtain⟨⟨x,h1'⟩,e1,e⟩:=tN e;obtain⟨⟨y,h2⟩,e2,e⟩:=tN e;refine zv R rs e1 e2 λφ2 H2 xc yc x2 R2 r1 r2=>?_;refine⟨φ2,h2,σ,.int (-1),h2,R2,rst.mono x2 rs,qDq h1,λφ3 H3 zc x3 R3 r3=>?_⟩;cases x with
 |int i=>
  cases y with
  |int j=>
   dsimp only at e;split at e
   ·rename_i hj;cases e;cases qB r1;cases qB r2;cases qB r3;exact⟨i,j,rfl,⟨by omega,by omega,by omega,by omega⟩,k φ3 H3 _ (x2.trans x3) R3 rfl⟩
   ·cases e
  |_=>cases e
 |_=>cases e
theorem qAy{elts:List Expr}{kk:Nat}{tpos:Pos}(hg:_L.Gl X "enumerate")(hm:X.mg "enumerate"=none)(hn:qN ea=true)(ha:SE X G F ea a):
  SI X G F (.Tuple elts kk tpos) (.Call (.Name "enumerate" p) [ea] [] pos) (.enum a):=by
 refine L6 (qAb hg hm (_L.pa_cons ha _L.pa_nil (qC hn)) hn) λσc H Q q=>?_;obtain⟨φ,h,σ,s,h',R,rs,e,k⟩:=q;unfold evi at e;obtain⟨⟨x,h1⟩,e1,e⟩:=tN e;refine⟨φ,h,σ,x,h1,R,rs,e1,λφ1 H1 w x1 R1 r1=>?_⟩;cases x with
 |ref p=>
  dsimp only at e;split at e
  ·rename_i xs ex;cases e;obtain⟨q,zs,hq,hs,rz⟩:=R1.lst ex;obtain⟨q',rfl,hq'⟩:=qI r1;rw[hq]at hq';cases hq';exact⟨_,rfl,⟨zs,hs⟩,k φ1 H1 _ x1 R1 ⟨_,hq,rfl⟩⟩
  ·cases e
 |_=>cases e
theorem qBi{elts:List Expr}{kk:Nat}{tpos:Pos}(hg:_L.Gl X "zip")(hm:X.mg "zip"=none)(hn:qN ea=true)(hn2:qN eb=true)(ha:SE X G F ea a)(hb:SE X G F eb b):
  SI X G F (.Tuple elts kk tpos) (.Call (.Name "zip" p) [ea,eb] [] pos) (.zip a b):=by
 refine L6 (qB3 hg hm (_L.pa_cons ha (_L.pa_cons hb _L.pa_nil (qC hn2)) (qC hn)) hn hn2) λσc H Q q=>?_;obtain⟨φ,h,σ,s,h',R,rs,e,k⟩:=q;unfold evi at e;obtain⟨⟨x,h1⟩,e1,e⟩:=tN e;obtain⟨⟨y,h2⟩,e2,e⟩:=tN e;refine zv R rs e1 e2 λφ2 H2 xc yc x2 R2 r1 r2=>?_;cases x with
 |ref i=>
  cases y with
  |ref j=>
   dsimp only at e;split at e
   ·rename_i xs ys ex ey;cases e;obtain⟨a',zs,hq,hs,rz⟩:=R2.lst ex;obtain⟨b',ws,hq',hs',rz'⟩:=R2.lst ey;obtain⟨a2,rfl,ha2⟩:=qI r1;obtain⟨b2,rfl,hb2⟩:=qI r2;rw[hq]at ha2;cases ha2;rw[hq']at hb2;cases hb2;exact⟨_,_,rfl,⟨zs,hs⟩,⟨ws,hs'⟩,k φ2 H2 _ x2 R2 ⟨_,_,hq,hq',rfl⟩⟩
   ·cases e
  |_=>cases e
 |_=>cases e
end
section
variable{X:Cx}{G:List Addr}{F:Nat->List V->AH->RV}
theorem qCq{φ:List Addr}:∀{v w w':V},rv φ v w->rv φ v w'->w=w'
 | .ref _,w,w',h,g=>by
  obtain⟨a,e1,h1⟩:=qI h;obtain⟨b,e2,g1⟩:=qI g;rw[h1]at g1;cases g1;rw[e1,e2]
 | .non,_,_,h,g=>by rw[qp h,qp g]
 | .bl _,_,_,h,g=>by rw[zE h,zE g]
 | .int _,_,_,h,g=>by rw[qB h,qB g]
 | .str _,_,_,h,g=>by rw[zG h,zG g]
 | .byt _,w,_,h,_=>by cases w<;>exact False.elim h
 | .flt _,w,_,h,_=>by cases w<;>exact False.elim h
 | .ty _,w,_,h,_=>by cases w<;>exact False.elim h
theorem B3{φ:List Addr}:∀{vs ws us:List V},rvs φ vs ws->rvs φ vs us->ws=us
 |_,_,_,.nil,.nil=>rfl
 |_,_,_,.cons r t,.cons r' t'=>by rw[qCq r r',B3 t t']
theorem Qi{φ:List Addr}{σ σc:St}(r:rst φ σ σc):∀src,rst φ (_L.inner src σ) (_L.inner src σc)
 | []=>.nil
 |none::src=>.cons trivial (Qi r src)
 |some j::src=>by
  refine .cons ?_ (Qi r src);show ropt φ (σ[j]?).join (σc[j]?).join;cases e:σ[j]? with
  |none=>exact trivial
  |some o=>
   cases o with
   |none=>exact trivial
   |some v=>
    obtain⟨oc,ec,r'⟩:=qJ r e;obtain⟨w,rfl,r'⟩:=r';rw[ec];exact⟨w,rfl,r'⟩
variable (X G F) in
abbrev SC(ifs:List Expr)(c:Es):Prop:=_L.PTs X ifs (tB X.K G (evc F c))
theorem qCI:SC X G F [] .nil:=by
 intro pins s σ H Q I q;obtain⟨φ,h,σa,b,h',R,rs,e,k⟩:=q;unfold evc at e;cases e;exact _L.pts_nil pins s σ H Q I (k φ H (.refl _) R)
theorem qBt{c:Expr}{a:E}(hc:ST X G F c a):SC X G F [c] (.cons a .nil):=by
 intro pins s σ H Q I q;obtain⟨φ,h,σa,b,h',R,rs,e,k⟩:=q;unfold evc at e;exact _L.pts_one hc pins s σ H Q I ⟨φ,h,σa,b,h',R,rs,e,k⟩
theorem W0{it:Itr}{src:List (Option Nat)}{g:Tg}{c:Es}{e:E}{σc:St}{H:Hp}{Q:VK}(q:tE X.K G F (.comp it src g c e) σc H Q):
  _L.tComp (tI G F X.K it) src (tG X.K G g) (tB X.K G (evc F c)) (tE X.K G F e) σc H Q:=by
 obtain⟨φ,h,σ,v,h',R,rs,ee,k⟩:=q;unfold ev at ee;obtain⟨⟨s,h1⟩,e1,ee⟩:=tN ee;refine⟨φ,h,σ,s,h1,R,rs,e1,λφ1 H1 J x1 R1 j1=>?_⟩;dsimp only at ee;split at ee
 ·rename_i n hn;intro D hD;have R2:Rl X.K G (φ1++[D]) (h1++[.lst false []]) (upd H1 D (.lst [])):=R1.newL hD .nil;have hDφ:(φ1++[D])[h1.length]?=some D:=R1.lastRef;refine⟨λi m ys σ' H'=>∃φ' h2 σa ya,Ext (φ1++[D]) φ'/\Rl X.K G φ' h2 H'/\rst φ' σa σ'/\rvs φ' ya ys/\h2[h1.length]?=some (.lst false ya)/\Jf s g (evc F c) (ev F e) h1.length m i ya σa h2=.ok (v,h'),
   ⟨n,φ1++[D],_,_,[],.refl _,R2,Qi (rst.mono (x1.trans ⟨[D],rfl⟩) rs) src,.nil,by simp,ee⟩,?_⟩
  rintro i m ys σ' H' ⟨φ',h2,σa,ya,x2,Ra,rsa,rya,hya,ec⟩ hys;have jj:IsJ X.K φ' s J:=j1.mono (Ext.trans ⟨[D],rfl⟩ x2);have hDφ':=x2.get hDφ;cases m with
  |zero=>
   unfold Jf at ec;split at ec
   ·rename_i hst;cases ec;exact .inl ⟨jj.stop Ra hst,k φ' H' _ ((x1.trans ⟨[D],rfl⟩).trans x2) Ra hDφ'⟩
   ·cases ec
  |succ m=>
   unfold Jf at ec;split at ec
   ·rename_i x h3 hy;split at ec
    ·rename_i σ3 hst;refine .inr ⟨jj.go Ra hy,λxv H2 hyl=>?_⟩;obtain⟨φ3,x3,R3,rx⟩:=jj.yld Ra hy hyl;refine⟨φ3,h3,σa,x,σ3,R3,rst.mono x3 rsa,rx,hst,λσc3 rs3=>?_⟩;obtain⟨⟨t,h4⟩,e4,ec⟩:=tN ec;refine⟨φ3,h3,σ3,t,h4,R3,rs3,e4,λφ4 H4 x4 R4=>?_⟩;dsimp only at ec;cases t with
     |true=>
      rw[if_pos rfl]at ec ⊢;obtain⟨⟨y,h5⟩,e5,ec⟩:=tN ec;refine⟨φ4,h4,σ3,y,h5,R4,rst.mono x4 rs3,e5,λφ5 H5 yc x5 R5 r5=>?_⟩;dsimp only at ec;split at ec
      ·rename_i hc5;have xx:Ext φ' φ5:=x3.trans (x4.trans x5);have hD5:=xx.get hDφ';obtain⟨zs,hz,rz⟩:=R5.obj _ _ D hc5.1 hD5;have ez:zs=ys:=B3 rz (rvs.mono xx rya);subst ez;refine⟨hz,by rw[<-Paired.length rz];exact wq hc5.2 v8,m,wz _,φ5,_,σ3,_,x2.trans xx,R5.set hc5.1 hD5 (qP rz (.cons r5 .nil)),rst.mono (x4.trans x5) rs3,qP rz (.cons r5 .nil),?_,ec⟩;rw[wj (wC.mp hc5.1).1]
      ·cases ec
     |false=>
      rw[if_neg (by decide)]at ec ⊢;split at ec
      ·rename_i hc4;have xx:Ext φ' φ4:=x3.trans x4;have hD4:=xx.get hDφ';obtain⟨zs,hz,rz⟩:=R4.obj _ _ D hc4 hD4;have ez:zs=ys:=B3 rz (rvs.mono xx rya);subst ez;exact⟨hz,m,wz _,φ4,_,σ3,_,x2.trans xx,R4,rst.mono x4 rs3,rz,hc4,ec⟩
      ·cases ec
    ·cases ec
   ·cases ec
 ·cases ee
end
section
variable{X:Cx}{G:List Addr}{F:Nat->List V->AH->RV}{a b c:E}{ea eb ec tg:Expr}{pos:Pos}
theorem O5{iter elt:Expr}{ifs:List Expr}{scope:Scope}{N:List Str}{it:Itr}{src:List (Option Nat)}{g:Tg}{cs:Es}{e:E}(hc:X.calm=true)(hi:SI X G F tg iter it)(S:_L.CompScope X scope N src)
  (hg:∀C fp s H,SG (_L.cxComp X scope C fp s H N) G tg g) (ht:∀C fp s H,SC (_L.cxComp X scope C fp s H N) G F ifs cs) (he:∀C fp s H,SE (_L.cxComp X scope C fp s H N) G F elt e)
  (hs:∀x,foldedSetIterable iter X.env x=pure x):SE X G F (.ListComp elt [⟨tg,iter,ifs,0⟩] scope pos) (.comp it src g cs e):=
 qi (_L.pe_comp hc hi S hg ht he hs) λ_ _ _=>W0
def Post(K:PySem.W.Frag)(G:List Addr)(D:O0)(φ:List Addr)(o:Out)(h':AH):Prop:=∀φ' H',Ext φ φ'->Rl K G φ' h' H'->match o with
 | .nx σ=>∀σc,rst φ' σ σc->D.nx σc H'
 | .rt v=>∀w,rv φ' v w->D.rt w H'
 | .bk σ=>∀σc,rst φ' σ σc->D.bk σc H'
 | .ct σ=>∀σc,rst φ' σ σc->D.ct σc H'
theorem Post.mono{K:PySem.W.Frag}{D:O0}{φ φ1:List Addr}{o:Out}{h':AH}(x:Ext φ φ1)(p:Post K G D φ o h'):Post K G D φ1 o h':=λφ' H' x' R=>p φ' H' (x.trans x') R
noncomputable def tS(K:PySem.W.Frag)(G:List Addr)(r:St->AH->RS):TS:=λD σc H=>∃φ h σ o h',Rl K G φ h H/\rst φ σ σc/\r σ h=.ok (o,h')/\Post K G D φ o h'
variable (X G F) in
abbrev SS(st:Stmt)(s:S):Prop:=PS X st (tS X.K G (ex F s))
variable (X G F) in
abbrev SSs(st:List Stmt)(s:Ss):Prop:=PSs X st (tS X.K G (exs F s))
theorem Qp{e:Stmt}{t t':TS}(h:PS X e t)(w:∀D σ H,t' D σ H->t D σ H):PS X e t':=λpins s σ H D I q=>h pins s σ H D I (w D σ H q)
theorem m8{e:List Stmt}{t t':TS}(h:PSs X e t)(w:∀D σ H,t' D σ H->t D σ H):PSs X e t':=λpins s σ H D I q=>h pins s σ H D I (w D σ H q)
theorem qQ{st:Stmt}:SS X G F st .stop:=by
 intro pins s σ H D I q;obtain⟨φ,h,σa,o,h',R,rs,e,k⟩:=q;unfold ex at e;cases e
noncomputable def jX:Expr->Bool
 | .ListComp ..=>false
 | .SetComp ..=>false
 | .DictComp ..=>false
 |_=>true
noncomputable def qCQ:Expr->Bool
 | .Tuple ..=>false
 |_=>true
theorem Qr{e:Expr}{t:Option Expr}{l:Nat}{env:Env}(h:jX e=true):swapsWith e t l env=pure false:=by
 cases e<;>first|rfl|cases h
theorem jp{e t:Expr}{l:Nat}{env:Env}(h:jX e=true):swapsWithSole [t] e l env=pure false:=Qr h
theorem qBD{K:PySem.W.Frag}{σ:St}{H:Hp}{Q Q':VK}(q:tE K G F a σ H Q)(w:∀v H,Q v H->Q' v H):tE K G F a σ H Q':=by
 obtain⟨φ,h,σa,v,h',R,rs,e,k⟩:=q;exact⟨φ,h,σa,v,h',R,rs,e,λφ' H' u x' R' r'=>w u H' (k φ' H' u x' R' r')⟩
theorem G8{g:Tg}{D:O0}{σc:St}{H:Hp}(q:tS X.K G (ex F (.asg g a)) D σc H):_L.tAsg (tE X.K G F a) (tG X.K G g) D σc H:=by
 obtain⟨φ,h,σ,o,h',R,rs,e,k⟩:=q;unfold ex at e;obtain⟨⟨x,h1⟩,e1,e⟩:=tN e;dsimp only at e;split at e
 ·rename_i σ1 es;cases e;exact⟨φ,h,σ,x,_,R,rs,e1,λφ1 H1 w x1 R1 r1=>⟨φ1,_,σ,x,σ1,R1,rst.mono x1 rs,r1,es,λσc' rs'=>k φ1 H1 x1 R1 σc' rs'⟩⟩
 ·cases e
theorem qC7{is:List Nat}{es:List Expr}{kk:Nat}{p:Pos}(hg:SG X G (.Tuple es kk p) (.tup is))(ha:SE X G F ea a)(hc:jX ea=true)(ht:qCQ ea=true):
  SS X G F (.Assign [.Tuple es kk p] ea pos) (.asg (.tup is) a):=
 Qp (_L.ps_asg ha hg (jp hc) (by cases ea<;>first|rfl|cases ht) rfl) λ_ _ _=>G8
theorem qBG{iter elt:Expr}{ifs:List Expr}{scope:Scope}{N:List Str}{it:Itr}{src:List (Option Nat)}{g:Tg}{cs:Es}{e:E}{i:Nat}{n:Str}{p cpos:Pos}(hc:X.calm=true)(hi:SI X G F tg iter it)(S:_L.CompScope X scope N src)
  (hg:∀C fp s H,SG (_L.cxComp X scope C fp s H N) G tg g) (ht:∀C fp s H,SC (_L.cxComp X scope C fp s H N) G F ifs cs) (he:∀C fp s H,SE (_L.cxComp X scope C fp s H N) G F elt e)
  (hs:∀x,foldedSetIterable iter X.env x=pure x) (hN:X.N.Nodup) (hn:X.N[i]?=some n) (hx:_L.Loc X.env.scope n) (hf:X.fn n=true\/X.env.scope.names.lookup n=some .local):
  SS X G F (.Assign [.Name n p] (.ListComp elt [⟨tg,iter,ifs,0⟩] scope cpos) pos) (.asg (.name i) (.comp it src g cs e)):=by
 have hsw:swapsWith (.ListComp elt [⟨tg,iter,ifs,0⟩] scope cpos) (some (.Name n p)) pos.line X.env=pure (X.env.blockKind==.function&&X.env.kindOf n==some .local&&p.line==(Expr.ListComp elt [⟨tg,iter,ifs,0⟩] scope cpos).pos.line
   && !(scope.names.any λ(m,k)=>m==n&&(k==.local||k==.cell))):=rfl
 generalize hb:(X.env.blockKind==.function&&X.env.kindOf n==some .local&&p.line==(Expr.ListComp elt [⟨tg,iter,ifs,0⟩] scope cpos).pos.line
   && !(scope.names.any λ(m,k)=>m==n&&(k==.local||k==.cell)))=bb at hsw
 cases bb with
 |true=>
  have hl:X.env.scope.names.lookup n=some .local:=by
   simp only[wB]at hb;have z:X.env.kindOf n=some .local:=by simpa using hb.1.1.2
   exact z
  refine Qp (_L.ps_setcomp (i:=i) (g:=tG X.K G g) (tc:=tB X.K G (evc F cs)) (te:=tE X.K G F e) hc hi S hg ht he hsw hN hn hl hs) λD σc H q=>?_;refine W0 (qBD (G8 q) λv H1 z=>?_);obtain⟨φ,h,σ,w,σ',R,rs,r,es,k⟩:=z;unfold store at es;cases es;exact k _ (zK (R:=ropt φ) (show ropt φ (some w) (some v) from⟨v,rfl,r⟩) i rs)
 |false=>exact Qp (_L.ps_asg (O5 hc hi S hg ht he hs) (U0 hN hn hx hf) hsw rfl rfl) λ_ _ _=>G8
noncomputable def qEK:_L.TSet:=λo i v H Q=>_L.rSetL o i v H Q\/∃p H',o=.ref p/\_L.DPut H p i v H'/\Q H'
theorem qBK(hu:X.A.units+8<cLine):_L.PSet X qEK:=by
 intro pins s σ H o i v ov iv u Q I ro ri rv h;rcases h with h|⟨p,H',rfl,g,q⟩
 ·exact _L.set_list pins s σ H o i v ov iv u Q I ro ri rv h
 ·cases ro;exact _L.d_setItem (by omega) I g ri rv λs' I'=>⟨H',I',q⟩
theorem qCX(hu:X.A.units+8<cLine){eo ei:Expr}{o i:E}{p:Pos}(ho:SE X G F eo o)(hi:SE X G F ei i)(ha:SE X G F ea a)(hc:jX ea=true)(hsl:jR ei=true):SS X G F (.Assign [.Subscript eo ei p] ea pos) (.put o i a):=by
 refine Qp (_L.ps_asg ha (_L.pg_sub ho hi (qBK hu) (λv=>by cases ei<;>first|rfl|cases hsl)) (jp hc) (by cases ea<;>rfl) rfl) λD σc H q=>?_;obtain⟨φ,h,σ,out,h',R,rs,e,k⟩:=q;unfold ex at e;obtain⟨⟨x,h1⟩,e1,e⟩:=tN e;obtain⟨⟨p1,h2⟩,e2,e⟩:=tN e;obtain⟨⟨k1,h3⟩,e3,e⟩:=tN e;refine⟨φ,h,σ,x,h1,R,rs,e1,λφ1 H1 w x1 R1 r1=>?_⟩;refine⟨φ1,h1,σ,p1,h2,R1,rst.mono x1 rs,e2,λφ2 H2 w2 x2 R2 r2=>?_⟩;refine⟨φ2,h2,σ,k1,h3,R2,rst.mono (x1.trans x2) rs,e3,λφ3 H3 w3 x3 R3 r3=>?_⟩;cases p1 with
 |ref q=>
  cases k1 with
  |int j=>
   dsimp only at e;split at e
   ·rename_i xs ex1;split at e
    ·rename_i jj ej;cases e;obtain⟨q1,a',zs,ha',hH,rz⟩:=R3.mut ex1;obtain⟨a2,rfl,ha2⟩:=qI (rv.mono x3 r2);rw[ha']at ha2;cases ha2;cases qB r3;refine .inl ⟨_,zs,j,jj,rfl,rfl,hH,by rw[<-Paired.length rz];exact ej,?_⟩;have xx:Ext φ φ3:=x1.trans (x2.trans x3);exact k φ3 _ xx (R3.set q1 ha' (zK (rv.mono (x2.trans x3) r1) jj rz)) σc (rst.mono xx rs)
    ·cases e
   ·split at e
    ·rename_i kvs ed;split at e
     ·rename_i hf;cases e;obtain⟨a',ea,eh,hH⟩:=R3.dct ed;obtain⟨a2,rfl,ha2⟩:=qI (rv.mono x3 r2);rw[ea]at ha2;cases ha2;cases qB r3;have hl:(kvs.map kk).length<sizeLine:=by rw[wG];exact wK hf.2 QW
      have xx:Ext φ φ3:=x1.trans (x2.trans x3);have fw:=B4 hf.1 r1;subst fw;refine .inr ⟨_,_,rfl,_L.DPut.k (k:=.inl j) hH hl,?_⟩;rw[qAt];exact k φ3 _ xx (R3.write rfl rfl eh ea qF) σc (rst.mono xx rs)
     ·cases e
    ·cases e
  |_=>cases e
 |_=>cases e
noncomputable def pur:Nat->E->Bool
 | 0,_=>false
 |n+1,e=>match e with
  | .var _=>true
  | .cst _=>true
  | .idx a b=>pur n a&&pur n b
  | .blt .int (.cons a .nil)=>pur n a
  | .meth .cnt a (.cons b .nil)=>pur n a&&pur n b
  |_=>false
noncomputable def X9:Nat->E->Bool
 | 0,_=>false
 |n+1,e=>match e with
  | .bin _ a b=>X9 n a&&X9 n b
  |e=>pur n e
theorem A7:∀(n:Nat){e:E}{σ:St}{h h':AH}{v:V},pur n e=true->ev F e σ h=.ok (v,h')->h'=h
 | 0,_,_,_,_,_,q,_=>by cases q
 |n+1,e,σ,h,h',v,q,k=>by
  unfold pur at q;split at q
  ·unfold ev at k;split at k
   ·cases k;rfl
   ·cases k
  ·unfold ev at k;cases k;rfl
  ·rw[wB]at q;unfold ev at k;obtain⟨⟨x,h1⟩,e1,k1⟩:=tN k;obtain⟨⟨y,h2⟩,e2,k2⟩:=tN k1;rw[<-A7 n q.1 e1,<-A7 n q.2 e2];clear k k1;dsimp only at k2
   (repeat' split at k2)<;>first|(cases k2;done)|(cases k2;rfl)
  ·unfold ev evs evs at k;obtain⟨⟨x,h1⟩,e1,k1⟩:=tN k;obtain⟨⟨y,h2⟩,e2,k2⟩:=tN e1;cases k2;rw[<-A7 n q e2];clear k e1;unfold qB8 one at k1;dsimp only at k1
   (repeat' split at k1)<;>first|(cases k1;done)|(cases k1;rfl)
  ·rw[wB]at q;unfold ev at k;obtain⟨⟨x,h1⟩,e1,k1⟩:=tN k;rw[<-A7 n q.1 e1];clear k;dsimp only at k1;split at k1
   ·split at k1
    ·unfold evs evs at k1;obtain⟨⟨y,h2⟩,e2,k2⟩:=tN k1;obtain⟨⟨z,h3⟩,e3,k3⟩:=tN e2;cases k3;rw[<-A7 n q.2 e3];clear k1 e2;dsimp only at k2;unfold qBM at k2;dsimp only at k2
     (repeat' split at k2)<;>first|(cases k2;done)|(cases k2;rfl)
    ·cases k1
   ·cases k1
  ·cases q
theorem qA8{op:BOp}{x y:V}{h h':AH}{i:Int}(e:Y3 op x y h=.ok (.int i,h')):h'=h/\(∃a,x=.int a)/\∃b,y=.int b:=by
 have fin:∀{f:Int->Int->RV},E5 x y f=.ok (.int i,h')->(∀a b,f a b=.ok (.int i,h')->h'=h)->h'=h/\(∃a,x=.int a)/\∃b,y=.int b:=λw k=>by
  obtain⟨a,b,e1,e2,e3⟩:=qf w;exact⟨k a b e3,⟨a,e1⟩,b,e2⟩
 cases op
 case add=>
  unfold Y3 at e;dsimp only at e;split at e
  ·obtain⟨b,rfl,e2⟩:=qt e;clear e
   (repeat' split at e2)<;>cases e2
  ·refine fin e λa b z=>?_;cases z;rfl
 case mul=>
  unfold Y3 at e;dsimp only at e;split at e
  ·(repeat' split at e)<;>cases e
  ·refine fin e λa b z=>?_;split at z
   ·cases z;rfl
   ·cases z
 all_goals
  unfold Y3 at e;refine fin e λa b z=>?_
  first|(cases z;rfl)|((repeat' split at z)<;>first|(cases z;done)|(cases z;rfl))
theorem F9:∀(n:Nat){e:E}{σ:St}{h h':AH}{i:Int},X9 n e=true->ev F e σ h=.ok (.int i,h')->h'=h
 | 0,_,_,_,_,_,q,_=>by cases q
 |n+1,e,σ,h,h',i,q,k=>by
  unfold X9 at q;split at q
  ·rw[wB]at q;unfold ev at k;obtain⟨⟨x,h1⟩,e1,k1⟩:=tN k;obtain⟨⟨y,h2⟩,e2,k2⟩:=tN k1;obtain⟨z,⟨a,rfl⟩,b,rfl⟩:=qA8 k2;rw[z,F9 n q.2 e2,F9 n q.1 e1]
  ·exact A7 n q k
theorem i9:_L.PGet X (_L.rIxL X.K):=by
 intro pins s σ H x y v u Q I rx ry h;obtain⟨p,xs,i,z,rfl,rfl,hq,he,q⟩:=h;cases rx;obtain⟨t,rfl⟩:=ry;obtain⟨its,r,pl,hz⟩:=I.list hq;obtain⟨j,h1,h2,h3,h4,h5⟩:=_L.atI_get he;obtain⟨w,ew,rw'⟩:=r.get h2;have hl:=r.length;have hn:=_L.line63;have fin:EP X pins σ Q w s:=⟨z,H,I,rw',q⟩
 by_cases h0:0<=i
 ·have hj:i.toNat=j:=by
   rw[seqIndex_of h0 h5]at h1;exact Option.some.inj h1
  exact wpAny_getItem_list pl.isList h0 (by omega) (by rw[hj];simpa using ew) fin
 ·have hj:(i+(its.toArray.size:Int)).toNat=j:=by
   rw[seqIndex_neg (by omega) h4]at h1;rw[wL,<-hl];exact Option.some.inj h1
  exact wpAny_getItem_list_neg pl.isList (by omega) (by rw[wL]<;>omega) (by omega) (by rw[hj];simpa using ew) fin
noncomputable def qDM(o i a:E):E:=.bin .add (.idx o i) (.bin .sub a (.cst (.int 0)))
theorem qAS{n:Nat}{o i:E}{σ:St}{h h4:AH}{x:V}(po:pur n o=true)(pi:X9 n i=true)(pa:X9 n a=true)(e:ev F (qDM o i a) σ h=.ok (x,h4)):
  ∃q kk xs iv jz,ev F o σ h=.ok (.ref q,h)/\ev F i σ h=.ok (.int kk,h)/\items h q=some xs/\((ixN xs.length kk).bind λj=>xs[j]?)=some (.int iv)/\ev F a σ h=.ok (.int jz,h)/\x=.int (iv+jz)/\h4=h:=by
 unfold qDM ev at e;obtain⟨⟨v0,h2⟩,a1,a2⟩:=tN e;obtain⟨⟨z,h3⟩,a3,a4⟩:=tN a2;clear e a2;unfold ev at a3;obtain⟨⟨z0,h3'⟩,a5,a6⟩:=tN a3;obtain⟨jz,j0,b1,b2,b3⟩:=qf (show E5 z0 (.int 0) (λi j=>.ok (.int (i-j),h3'))=.ok (z,h3) from a6);subst b1;cases b2;cases b3;clear a3 a6;unfold ev at a1;obtain⟨⟨x0,h1⟩,a7,a8⟩:=tN a1;obtain⟨⟨y0,h1'⟩,a9,a10⟩:=tN a8;clear a1 a8;have t1:=A7 n po a7;subst t1;cases x0 with
 |ref q=>
  cases y0 with
  |int kk=>
   have t2:=F9 n pi a9;subst t2;dsimp only at a10;split at a10
   ·rename_i xs exs;split at a10
    ·rename_i v1 ev1;cases a10;have t3:=F9 n pa a5;subst t3;dsimp only at a4;unfold Y3 at a4;dsimp only at a4;split at a4
     ·cases a4
     ·obtain⟨iv,jv,c1,c2,c3⟩:=qf a4;subst c1;cases c2;cases c3;exact⟨q,kk,xs,iv,jz,a7,a9,exs,ev1,a5,by rw[Int.sub_zero],rfl⟩
    ·cases a10
   ·cases a10
  |_=>cases a10
 |_=>cases a10
theorem qBj{eo ei:Expr}{o i:E}{p:Pos}(ho:SE X G F eo o)(hi:SE X G F ei i)(ha:SE X G F ea a)(hsl:jR ei=true){n:Nat}(po:pur n o=true)(pi:X9 n i=true)(pa:X9 n a=true):
  SS X G F (.AugAssign (.Subscript eo ei p) .Add ea pos) (.put o i (qDM o i a)):=by
 refine Qp (_L.ps_augS ho hi i9 ha _L.ip_add _L.set_list (λov iv new=>by cases ei<;>first|rfl|cases hsl)) λD σc H q=>?_;obtain⟨φ,h,σ,out,h',R,rs,e,k⟩:=q;unfold ex at e;obtain⟨⟨x,h4⟩,a1,a2⟩:=tN e;clear e;obtain⟨q,kk,xs,iv,jz,eo1,ek1,exs,ev1,ez0,b1,b2⟩:=qAS po pi pa a1;subst b1 b2;dsimp only at a2;rw[eo1,tH]at a2;dsimp only at a2;rw[ek1,tH]at a2;dsimp only at a2;split at a2
 ·rename_i ys eys;split at a2
  ·rename_i jj ej;cases a2;have hxs:xs=ys:=by
    have:=ZE eys;unfold qH at this;unfold items at exs;split at this
    ·rename_i e0;rw[e0]at exs;cases this;cases exs;rfl
    ·cases this
   subst hxs;refine⟨φ,_,σ,_,_,R,rs,eo1,λφ1 H1 w1 x1 R1 r1=>?_⟩;refine⟨φ1,_,σ,_,_,R1,rst.mono x1 rs,ek1,λφ2 H2 w2 x2 R2 r2=>?_⟩;obtain⟨a2,rfl,ha2⟩:=qI (rv.mono x2 r1);cases qB r2;obtain⟨p2,zs2,hp2,hs2,rz2⟩:=R2.lst (ZE eys);rw[ha2]at hp2;cases hp2;obtain⟨jx,ejx,ew⟩:=wH.mp ev1;obtain⟨w',hw',rw'⟩:=qJ rz2 ew;cases qB rw';have hat:_L.atI zs2 kk=some (.int iv):=by
    unfold _L.atI;rw[<-Paired.length rz2];exact wH.mpr ⟨jx,ejx,hw'⟩
   refine⟨_,zs2,kk,.int iv,rfl,rfl,hs2,hat,?_⟩;refine⟨φ2,_,σ,_,_,R2,rst.mono (x1.trans x2) rs,ez0,λφ3 H3 w3 x3 R3 r3=>?_⟩;cases qB r3;refine⟨iv,jz,rfl,rfl,?_⟩;obtain⟨q1,a',zs,ha',hH,rz⟩:=R3.mut eys;have ha3:=x3.get ha2;rw[ha']at ha3;cases ha3;refine⟨_,zs,kk,jj,rfl,rfl,hH,by rw[<-Paired.length rz];exact ej,?_⟩;have xx:Ext φ φ3:=x1.trans (x2.trans x3);exact k φ3 _ xx (R3.set q1 ha' (zK (show rv φ3 (.int (iv+jz)) (.int (iv+jz)) from rfl) jj rz)) σc (rst.mono xx rs)
  ·cases a2
 ·split at a2
  ·rename_i kvs ed;exfalso;unfold items at exs;unfold JL at ed;split at ed
   ·rename_i e0;rw[e0]at exs;cases exs
   ·cases ed
  ·cases a2
theorem qBJ(ha:SE X G F ea a)(hc:jX ea=true):SS X G F (.Expr ea pos) (.expr a):=by
 refine Qp (_L.ps_expr ha (Qr hc)) λD σc H q=>?_;obtain⟨φ,h,σ,out,h',R,rs,e,k⟩:=q;unfold ex at e;obtain⟨⟨x,h1⟩,e1,e⟩:=tN e;cases e;exact⟨φ,h,σ,x,_,R,rs,e1,λφ1 H1 w x1 R1 r1=>k φ1 H1 x1 R1 σc (rst.mono x1 rs)⟩
theorem qBh(ha:SE X G F ea a):SS X G F (.Return (some ea) pos) (.ret a):=by
 refine Qp (_L.ps_ret ha) λD σc H q=>?_;obtain⟨φ,h,σ,out,h',R,rs,e,k⟩:=q;unfold ex at e;obtain⟨⟨x,h1⟩,e1,e⟩:=tN e;cases e;exact⟨φ,h,σ,x,_,R,rs,e1,λφ1 H1 w x1 R1 r1=>k φ1 H1 x1 R1 w r1⟩
theorem qAc:SSs X G F [] .nil:=by
 refine m8 _L.pss_nil λD σc H q=>?_;obtain⟨φ,h,σ,out,h',R,rs,e,k⟩:=q;unfold exs at e;cases e;exact k φ H (.refl _) R σc rs
theorem Z2{st:Stmt}{sts:List Stmt}{s:S}{ss:Ss}(h1:SS X G F st s)(h2:SSs X G F sts ss):SSs X G F (st::sts) (.cons s ss):=by
 refine m8 (_L.pss_cons h1 h2) λD σc H q=>?_;obtain⟨φ,h,σ,out,h',R,rs,e,k⟩:=q;unfold exs at e;obtain⟨⟨o,h1⟩,e1,e⟩:=tN e;refine⟨φ,h,σ,o,h1,R,rs,e1,λφ1 H1 x1 R1=>?_⟩;cases o with
 |nx σ1=>exact λσc1 rs1=>⟨φ1,h1,σ1,out,h',R1,rs1,e,k.mono x1⟩
 |rt v=>cases e;exact k φ1 H1 x1 R1
 |bk σ1=>cases e;exact k φ1 H1 x1 R1
 |ct σ1=>cases e;exact k φ1 H1 x1 R1
theorem qC9{t u:List Stmt}{st su:Ss}(hc:ST X G F ec c)(ht:SSs X G F t st)(hu:SSs X G F u su):SS X G F (.If ec t u pos) (.ifs c st su):=by
 refine Qp (_L.ps_if hc ht hu) λD σc H q=>?_;obtain⟨φ,h,σ,out,h',R,rs,e,k⟩:=q;unfold ex at e;obtain⟨⟨x,h1⟩,e1,e⟩:=tN e;refine⟨φ,h,σ,x,h1,R,rs,e1,λφ1 H1 x1 R1=>?_⟩;dsimp only at e;cases x with
 |true=>
  rw[if_pos rfl]at e ⊢;exact⟨φ1,h1,σ,out,h',R1,rst.mono x1 rs,e,k.mono x1⟩
 |false=>
  rw[if_neg (by decide)]at e ⊢;exact⟨φ1,h1,σ,out,h',R1,rst.mono x1 rs,e,k.mono x1⟩
theorem qBY{iter:Expr}{body:List Stmt}{it:Itr}{g:Tg}{sb:Ss}(hx:X.xe=λ_ _=>False)(hc:X.calm=true)(hi:SI X G F tg iter it)(hg:SG X G tg g)(hb:SSs X G F body sb)
  (hs:∀x,foldedSetIterable iter X.env x=pure x):SS X G F (.For tg iter body [] pos) (.for_ g it sb):=by
 refine Qp (_L.ps_for (by rw[hx];exact PassesOwn.never) hc hi hg hb hs) λD σc H q=>?_;obtain⟨φ,h,σ,out,h',R,rs,e,k⟩:=q;unfold ex at e;obtain⟨⟨s,h1⟩,e1,e⟩:=tN e;refine⟨φ,h,σ,s,h1,R,rs,e1,λφ1 H1 J x1 R1 j1=>?_⟩;dsimp only at e;split at e
 ·rename_i n hn;refine⟨λi m σ' H'=>∃φ' h2 σa,Ext φ1 φ'/\Rl X.K G φ' h2 H'/\rst φ' σa σ'/\Y2 s g (exs F sb) m i σa h2=.ok (out,h'),⟨n,φ1,h1,σ,.refl _,R1,rst.mono x1 rs,e⟩,?_⟩;rintro i m σ' H' ⟨φ',h2,σa,x2,Ra,rsa,ef⟩;have jj:IsJ X.K φ' s J:=j1.mono x2;cases m with
  |zero=>
   unfold Y2 at ef;split at ef
   ·rename_i hst;cases ef;exact .inl ⟨jj.stop Ra hst,k φ' H' (x1.trans x2) Ra σ' rsa⟩
   ·cases ef
  |succ m=>
   unfold Y2 at ef;split at ef
   ·rename_i x h3 hy;split at ef
    ·rename_i σ3 hst;refine .inr ⟨jj.go Ra hy,λσ' H'=>∃φ' h2 σa,Ext φ1 φ'/\Rl X.K G φ' h2 H'/\rst φ' σa σ'/\Y2 s g (exs F sb) m (i+1) σa h2=.ok (out,h'),λσ2 H2 w=>⟨m,wz _,w⟩,λxv H2 hyl=>?_⟩;obtain⟨φ3,x3,R3,rx⟩:=jj.yld Ra hy hyl;refine⟨φ3,h3,σa,x,σ3,R3,rst.mono x3 rsa,rx,hst,λσc3 rs3=>?_⟩;obtain⟨⟨o,h4⟩,e4,ef⟩:=tN ef;refine⟨φ3,h3,σ3,o,h4,R3,rs3,e4,λφ4 H4 x4 R4=>?_⟩;dsimp only at ef;cases o with
     |nx σ4=>exact λσc4 rs4=>⟨φ4,h4,σ4,x2.trans (x3.trans x4),R4,rs4,ef⟩
     |ct σ4=>exact λσc4 rs4=>⟨φ4,h4,σ4,x2.trans (x3.trans x4),R4,rs4,ef⟩
     |bk σ4=>cases ef;exact k φ4 H4 (x1.trans (x2.trans (x3.trans x4))) R4
     |rt v=>cases ef;exact k φ4 H4 (x1.trans (x2.trans (x3.trans x4))) R4
    ·cases ef
   ·cases ef
 ·cases e
theorem j6{body:List Stmt}{sb:Ss}(hx:X.xe=λ_ _=>False)(hc:ST X G F ec c)(hb:SSs X G F body sb):SS X G F (.While ec body [] pos) (.while_ c sb):=by
 refine Qp (_L.ps_while (by rw[hx];exact PassesOwn.never) hc hb) λD σc H q=>?_;obtain⟨φ,h,σ,out,h',R,rs,e,k⟩:=q;unfold ex at e;refine⟨λm σ' H'=>∃φ' h2 σa,Ext φ φ'/\Rl X.K G φ' h2 H'/\rst φ' σa σ'/\jW (λσ h=>asB (ev F c σ h)) (exs F sb) m σa h2=.ok (out,h'),⟨qB4,φ,h,σ,.refl _,R,rs,e⟩,?_⟩;rintro m σ' H' ⟨φ',h2,σa,x2,Ra,rsa,ew⟩;cases m with
 |zero=>unfold jW at ew;cases ew
 |succ m=>
  unfold jW at ew;obtain⟨⟨t,h3⟩,e3,ew⟩:=tN ew;refine⟨φ',h2,σa,t,h3,Ra,rsa,e3,λφ3 H3 x3 R3=>?_⟩;dsimp only at ew;cases t with
  |true=>
   rw[if_pos rfl]at ew ⊢;obtain⟨⟨o,h4⟩,e4,ew⟩:=tN ew;refine⟨λσ' H'=>∃φ' h2 σa,Ext φ φ'/\Rl X.K G φ' h2 H'/\rst φ' σa σ'/\jW (λσ h=>asB (ev F c σ h)) (exs F sb) m σa h2=.ok (out,h'),λσ2 H2 w=>⟨m,wz _,w⟩,φ3,h3,σa,o,h4,R3,rst.mono x3 rsa,e4,λφ4 H4 x4 R4=>?_⟩;dsimp only at ew;cases o with
   |nx σ4=>exact λσc4 rs4=>⟨φ4,h4,σ4,x2.trans (x3.trans x4),R4,rs4,ew⟩
   |ct σ4=>exact λσc4 rs4=>⟨φ4,h4,σ4,x2.trans (x3.trans x4),R4,rs4,ew⟩
   |bk σ4=>cases ew;exact k φ4 H4 (x2.trans (x3.trans x4)) R4
   |rt v=>cases ew;exact k φ4 H4 (x2.trans (x3.trans x4)) R4
  |false=>
   rw[if_neg (by decide)]at ew ⊢;cases ew;exact k φ3 H3 (x2.trans x3) R3 σ' (rst.mono x3 rsa)
end
set_option genInjectivity false in structure Gam where
 N:List Str
 sc:Scope
 fns:List Str
 gl:List (Str×E)
 bl:List Str
 own:Str->Bool
 cls:List Str:=[]
 xr:Bool:=false
noncomputable def slot(N:List Str)(x:Str):Option Nat:=(List.range N.length).find? λi=>N[i]?==some x
theorem jl{N:List Str}{x:Str}{i:Nat}(h:slot N x=some i):N[i]?=some x:=by
 unfold slot at h;simpa using List.find?_some h
noncomputable def qEI(sc:Scope)(x:Str):Bool:=match sc.names.lookup x with|some .local=>true|some .cell=>true|some .free=>true|_=>false
theorem qAC{sc:Scope}{x:Str}(h:qEI sc x=true):_L.Vis sc x:=by
 unfold qEI at h;unfold _L.Vis;split at h<;>first|(rename_i e;simp[e])|cases h
noncomputable def glB(sc:Scope)(x:Str):Bool:=sc.names.lookup x==some .globalImplicit
noncomputable def okN(x:Str):Bool:=!(x==("__debug__":Str))&&!(x==("__classdict__":Str))&&!decide (x="__name__")
noncomputable def qEq:Operator->Option BOp
 | .Add=>some .add | .Sub=>some .sub | .Mult=>some .mul | .FloorDiv=>some .fdiv | .Mod=>some .mod | .Pow=>some .pow | .BitAnd=>some .band | .LShift=>some .shl|_=>none
theorem qAo{o:Operator}{b:BOp}(h:qEq o=some b):o=opB b:=by
 cases o<;>cases h<;>rfl
noncomputable def QJ:CmpOp->COp
 | .Lt=>.lt | .LtE=>.le | .Gt=>.gt | .GtE=>.ge | .Eq=>.eq | .NotEq=>.ne | .In=>.inn | .NotIn=>.notin | .Is=>.is | .IsNot=>.isnot
theorem jw(o:CmpOp):o=opC (QJ o):=by cases o<;>rfl
noncomputable def ZZ:Expr->Bool
 | .Set ..=>false
 |_=>true
noncomputable def U2:Expr->Bool
 | .Call ..=>false
 |_=>true
noncomputable def bfL:List (Str×BF):=[("len",.len),("sum",.sum),("all",.all),("any",.any),("max",.max),("min",.min),("list",.list),("int",.int),("tuple",.tuple),("sorted",.sorted),("repr",.repr)]
noncomputable def qEM(x:Str):Option BF:=bfL.lookup x
theorem ZJ{x:Str}{f:BF}:∀{l:List (Str×BF)},l.lookup x=some f->(x,f)∈l
 | [],h=>by cases h
 | (a,b)::l,h=>by
  rw[List.lookup_cons]at h;split at h
  ·rename_i e;cases h;rw[eq_of_beq e];exact wP ..
  ·exact wN _ (ZJ h)
theorem qCC:∀p∈bfL,bootBuiltins p.1=some (fnB p.2):=
 wY.mpr ⟨PySem.boot_len,wY.mpr ⟨PyProof.Rows.boot_sum,wY.mpr ⟨PyProof.Rows.boot_all,wY.mpr ⟨PyProof.Rows.boot_any,wY.mpr ⟨PyProof.Rows.boot_max,wY.mpr ⟨PyProof.Rows.boot_min,wY.mpr ⟨PyProof.Rows.boot_list,wY.mpr ⟨PyProof.Rows.boot_int,wY.mpr ⟨PyProof.Rows.boot_tuple,wY.mpr ⟨PyProof.Rows.boot_sorted,wY.mpr ⟨PyProof.Rows.boot_repr,(λ_ h=>absurd h wT)⟩⟩⟩⟩⟩⟩⟩⟩⟩⟩⟩
theorem P9{x:Str}{f:BF}(h:qEM x=some f):bootBuiltins x=some (fnB f):=qCC _ (ZJ h)
noncomputable def mxA(b:BF)(as:List Expr):BF:=if decide (b=.max)&&decide (as.length=1) then .maxl else b
theorem qBv{x:Str}{f:BF}{as:List Expr}(h:qEM x=some f):bootBuiltins x=some (fnB (mxA f as)):=by
 unfold mxA;split
 ·rename_i c;rw[wB,vj]at c;rw[P9 h,c.1];rfl
 ·exact P9 h
noncomputable def qDj(x:Str):Option String:=
 if x="int" then some "int" else if x="bool" then some "bool" else if x="list" then some "list" else if x="tuple" then some "tuple" else if x="str" then some "str" else if x="dict" then some "dict" else none
theorem qAj{x:Str}{t:String}(h:qDj x=some t):bootBuiltins x=some (.type t)/\JF t=true:=by
 unfold qDj at h
 repeat' split at h
 all_goals first|cases h|skip
 all_goals (rename_i hx;subst hx)
 ·exact⟨PyProof.Rows.boot_int,by decide⟩
 ·exact⟨PyProof.Rows.boot_bool,by decide⟩
 ·exact⟨PyProof.Rows.boot_list,by decide⟩
 ·exact⟨PyProof.Rows.boot_tuple,by decide⟩
 ·exact⟨PyProof.Rows.boot_str,by decide⟩
 ·exact⟨PyProof.Rows.boot_dict,by decide⟩
noncomputable def qDR(scope sc:Scope):Scope:=
 { scope with names:=scope.names.map λ(n,k)=>if (k==.free&&sc.kind==.function&&sc.names.lookup n==some .cell) then (n,.cell) else (n,k) }
noncomputable def O1:Expr->List Str
 | .Name x _=>[x]
 | .Tuple es _ _=>es.filterMap λe:Expr=>match e with | .Name x _=>some x|_=>none
 |_=>[]
noncomputable def qBk(scope:Scope):List Str:=scope.names.filterMap λy=>if y.2=.free then some y.1 else none
noncomputable def ZP(Γ:Gam)(scope:Scope)(N:List Str)(src:List (Option Nat)):Bool:=
 decide (scope.kind=.function)&&scope.names.all (λy=>decide (scope.names.lookup y.1=some y.2))
 && scope.names.all (λy=>decide (y.2=.free->(Γ.sc.names.lookup y.1=some .cell\/Γ.sc.names.lookup y.1=some .free)))&&decide N.Nodup&&decide (src.length=N.length)
 && (List.range N.length).all (λi=>match N[i]?,src[i]? with|some x,some (some j)=>decide (Γ.N[j]?=some x/\scope.names.lookup x=some .free)|_,_=>true)
noncomputable def J6(Γ:Gam)(x:Str):Bool:=match Γ.sc.names.lookup x with|some .local=>true|some .cell=>Γ.own x|_=>false
noncomputable def qDI(Γ:Gam):List Expr->Option (List Nat)
 | []=>some []
 | .Name x _::r=>if J6 Γ x then (match slot Γ.N x,qDI Γ r with|some i,some is=>some (i::is)|_,_=>none) else none
 |_=>none
noncomputable def trT(Γ:Gam):Expr->Option Tg
 | .Name x _=>if J6 Γ x then (slot Γ.N x).map .name else none
 | .Tuple es _ _=>(qDI Γ es).map .tup
 |_=>none
noncomputable def k9:List Expr->Bool
 | [.Call (.Name r _) [_] [] _]=>decide (r="set")
 |_=>false
noncomputable def qDX:List Expr->Bool
 | [.Call (.Name r _) [_] [] _]=>decide (r="range")
 | [.Call (.Name r _) [_,_] [] _]=>decide (r="range")
 |_=>false
noncomputable def qEd:E->Bool
 |_=>true
mutual
noncomputable def trE:Nat->Gam->Expr->Option E
 | 0,_,_=>none
 |n+1,Γ,e=>match e with
  | .Constant c _ _=>(match c with
   | .int i=>some (.cst (.int i))
   | .bool i=>some (.cst (.bl i))
   | .none=>some (.cst .non)
   | .str i=>some (.cst (.str i))
   |_=>none)
  | .Name x _=>if okN x then (if qEI Γ.sc x then (slot Γ.N x).map .var else if glB Γ.sc x then Γ.gl.lookup x else none) else none
  | .BinOp a op b _=>match qEq op,trE n Γ a,trE n Γ b with|some o,some a',some b'=>some (.bin o a' b')|_,_,_=>none
  | .UnaryOp op a _=>(match op with
   | .USub=>(trE n Γ a).map .neg
   | .Not=>(trE n Γ a).map .not
   |_=>none)
  | .BoolOp op vs p=>trB n Γ op p vs
  | .Compare a ops bs _=>(match ops,bs with
   | [op],[b]=>if ZZ b then (match trE n Γ a,trE n Γ b with|some a',some b'=>some (.cmp (QJ op) a' b')|_,_=>none) else none
   | [o1,o2],[b,c]=>if ZZ c then (match trE n Γ a,trE n Γ b,trE n Γ c with|some a',some b',some c'=>some (.cmp2 (QJ o1) (QJ o2) a' b' c')|_,_,_=>none) else none
   | [o1,o2,o3],[b,c,d]=>if ZZ d then (match trE n Γ a,trE n Γ b,trE n Γ c,trE n Γ d with|some a',some b',some c',some d'=>some (.cmp3 (QJ o1) (QJ o2) (QJ o3) a' b' c' d')|_,_,_,_=>none) else none
   |_,_=>none)
  | .Call fn args kws cpos=>(match kws with
   | []=>(match fn with
    | .Name f _=>if okN f&&glB Γ.sc f&&args.all qN then trC n Γ f args else none
    | .Attribute o m apos=>(match args with
     | [x]=>if m="append"/\U2 o=true/\qN x=true/\(apos.endLine==cpos.line)=true then (match trE n Γ o,trE n Γ x with|some o',some x'=>some (.app o' x')|_,_=>none) else none
     | []=>if m="bit_length" then (if U2 o=true/\(apos.endLine==cpos.line)=true then (trE n Γ o).map (λo'=>.blt .bits (.cons o' .nil)) else none) else none
     |_=>none)
    |_=>none)
   |_=>none)
  | .Subscript a b _=>(match b with
   | .Slice lo hi st _=>(match st with
    |none=>(match trE n Γ a,trO n Γ lo,trO n Γ hi with|some a',some l,some h=>some (.sl a' l h)|_,_,_=>none)
    |some k=>(match lo,hi,k with
     |none,none,.UnaryOp .USub (.Constant (.int 1) _ _) _=>(trE n Γ a).map .rev
     |_,_,_=>none))
   |b=>if jR b then (match trE n Γ a,trE n Γ b with|some a',some b'=>some (.idx a' b')|_,_=>none) else none)
  | .List es _=>if es.all qN then (trA n Γ es).map .lst else none
  | .Tuple es _ _=>if es.all qN then (trA n Γ es).map .tup else none
  | .Dict ks vs _=>(match ks,vs with|[],[]=>some .dnew|_,_=>none)
  | .ListComp elt gens scope _=>(match gens with
   | [gen]=>(match gen with
    | ⟨tg,iter,ifs,asy⟩=>(match asy with
     | 0=>
      let N:=O1 tg++qBk scope
      let src:=(O1 tg).map (λ_=>none)++(qBk scope).map (slot Γ.N)
      let Γ':Gam:={ Γ with N:=N,sc:=qDR scope Γ.sc,own:=λx=>decide (scope.names.lookup x=some .cell) }
      if ZP Γ scope N src&&ZZ iter then (match trI n Γ tg iter,trT Γ' tg,qBV n Γ' ifs,trE n Γ' elt with|some it,some g,some c,some e'=>some (.comp it src g c e')|_,_,_,_=>none) else none
     |_=>none))
   |_=>none)
  |_=>none
noncomputable def trA:Nat->Gam->List Expr->Option Es
 | 0,_,_=>none
 |_+1,_,[]=>some .nil
 |n+1,Γ,e::es=>match trE n Γ e,trA n Γ es with|some a,some as=>some (.cons a as)|_,_=>none
noncomputable def trB:Nat->Gam->BoolOp->Pos->List Expr->Option E
 | 0,_,_,_,_=>none
 |_+1,_,_,_,[]=>none
 |n+1,Γ,_,_,[a]=>trE n Γ a
 |n+1,Γ,op,p,a::b::r=>match trE n Γ a,trB n Γ op p (b::r) with|some a',some b'=>some (match op with | .And=>.and a' b' | .Or=>.or a' b')|_,_=>none
noncomputable def trC:Nat->Gam->Str->List Expr->Option E
 | 0,_,_,_=>none
 |n+1,Γ,f,args=>match slot Γ.fns f with
  |some i=>(trA n Γ args).map (.call i)
  |none=>if Γ.bl.contains f then
    (if f="isinstance" then (match args with
     | [a,.Name t _]=>if okN t&&glB Γ.sc t&&Γ.bl.contains t then (match trE n Γ a,qDj t with|some a',some t'=>some (.isi a' [t'])|_,_=>none) else none
     |_=>none)
    else if f="list"/\qDX args=true then (match args with
     | [.Call (.Name r _) [a] [] _]=>if okN r&&glB Γ.sc r&&Γ.bl.contains r&&qN a&&decide (r="range") then (trE n Γ a).map .lrng else none
     |_=>none)
    else if f="len"/\k9 args=true then (match args with
     | [.Call (.Name r _) [a] [] _]=>if okN r&&glB Γ.sc r&&Γ.bl.contains r&&qN a&&decide (r="set") then (trE n Γ a).map .nset else none
     |_=>none)
    else if f="sorted"/\k9 args=true then (match args with
     | [.Call (.Name r _) [a] [] _]=>if okN r&&glB Γ.sc r&&Γ.bl.contains r&&qN a&&decide (r="set") then (trE n Γ a).map .sset else none
     |_=>none)
    else match qEM f,args with
     |some b,_::_=>(trA n Γ args).map (.blt (mxA b args))
     |_,_=>none)
   else none
noncomputable def trO:Nat->Gam->Option Expr->Option Es
 | 0,_,_=>none
 |_+1,_,none=>some .nil
 |n+1,Γ,some e=>(trE n Γ e).map λa=>.cons a .nil
noncomputable def qBV:Nat->Gam->List Expr->Option Es
 | 0,_,_=>none
 |_+1,_,[]=>some .nil
 |n+1,Γ,[c]=>(trE n Γ c).map λa=>.cons a .nil
 |_,_,_=>none
noncomputable def trI:Nat->Gam->Expr->Expr->Option Itr
 | 0,_,_,_=>none
 |n+1,Γ,tg,iter=>match iter with
  | .Call (.Name f _) args [] _=>
   if f="range" then (if glB Γ.sc f&&Γ.bl.contains f&&args.all qN then (match args with
    | [a]=>(trE n Γ a).map .rng1
    | [a,b]=>match trE n Γ a,trE n Γ b with|some a',some b'=>some (.rng2 a' b')|_,_=>none
    | [a,b,c]=>match trE n Γ a,trE n Γ b,trE n Γ c with|some a',some b',some c'=>if c'.isM1 then some (.rng3 a' b') else none|_,_,_=>none
    |_=>none) else none)
   else if f="zip" then (if glB Γ.sc f&&Γ.bl.contains f&&args.all qN then (match tg,args with
    | .Tuple ..,[a,b]=>match trE n Γ a,trE n Γ b with|some a',some b'=>some (.zip a' b')|_,_=>none
    |_,_=>none) else none)
   else if f="enumerate" then (if glB Γ.sc f&&Γ.bl.contains f&&args.all qN then (match tg,args with
    | .Tuple ..,[a]=>(trE n Γ a).map .enum
    |_,_=>none) else none)
   else (trE n Γ iter).map .list
  |_=>(trE n Γ iter).map .list
end
mutual
noncomputable def trS:Nat->Gam->Stmt->S
 | 0,_,_=>.stop
 |n+1,Γ,st=>match st with
  | .Assign ts v _=>(match ts with
   | [tgt]=>(match tgt with
    | .Name x _=>(match trT Γ (.Name x ⟨0,0,0,0⟩),trE 60 Γ v with|some g,some a=>if qEd a then .asg g a else .stop|_,_=>.stop)
    | .Tuple es k p=>(match es,v with
     | [.Name _ _,.Name _ _],.Tuple [_,_] _ _=>.stop
     |es,v=>if jX v&&qCQ v then (match trT Γ (.Tuple es k p),trE 60 Γ v with|some g,some a=>.asg g a|_,_=>.stop) else .stop)
    | .Subscript o i _=>if jX v&&jR i then (match trE 60 Γ o,trE 60 Γ i,trE 60 Γ v with|some o',some i',some v'=>.put o' i' v' | _,_,_=>.stop) else .stop
    |_=>.stop)
   |_=>.stop)
  | .Expr e _=>if jX e then (match trE 60 Γ e with|some a=>.expr a|none=>.stop) else .stop
  | .Return r _=>(match r with
   |some e=>(match trE 60 Γ e with|some a=>.ret a|none=>.stop)
   |none=>.stop)
  | .If c t u _=>match trE 60 Γ c with|some c'=>.ifs c' (N6 n Γ t) (N6 n Γ u)|none=>.stop
  | .For tg iter b els _=>(match els with
   | []=>if ZZ iter then (match trI 60 Γ tg iter,trT Γ tg with|some it,some g=>.for_ g it (N6 n Γ b)|_,_=>.stop) else .stop
   |_=>.stop)
  | .While c b els _=>(match els with
   | []=>(match trE 60 Γ c with|some c'=>.while_ c' (N6 n Γ b)|none=>.stop)
   |_=>.stop)
  | .AugAssign tgt op v _=>(match tgt,op with
   | .Subscript o i _,.Add=>if jR i then (match trE 60 Γ o,trE 60 Γ i,trE 60 Γ v with|some o',some i',some v'=>if pur 20 o'&&X9 20 i'&&X9 20 v' then .put o' i' (qDM o' i' v') else .stop|_,_,_=>.stop) else .stop
   |_,_=>.stop)
  |_=>.stop
noncomputable def N6:Nat->Gam->List Stmt->Ss
 | 0,_,_=>.cons .stop .nil
 |_+1,_,[]=>.nil
 |n+1,Γ,s::r=>.cons (trS n Γ s) (N6 n Γ r)
end
structure Fit(Γ:Gam)(X:Cx)(G:List Addr)(F:Nat->List V->AH->RV):Prop where
 hN:X.N=Γ.N
 nd:Γ.N.Nodup
 sc:X.env.scope=Γ.sc
 calm:X.calm=true
 fn:∀x,Γ.own x=true->X.fn x=true
 fns:∀(f:Nat) x,Γ.fns[f]?=some x->FnS X G F f x
 gls:∀x e,Γ.gl.lookup x=some e->(∃v u,e=.cst v/\X.mg x=some u/\RelV v u/\∀φ,rv φ v v)\/(∃g a,e=.glob g/\X.mg x=some (.ref a)/\G[g]?=some a)
 blt:∀x,Γ.bl.contains x=true->X.mg x=none
 hu:X.A.units+8<cLine
 gd:X.A.guards=some []
 gtu:∀a∈G,∃o,X.K.lookup a=some o/\o.cls=.type "tuple"/\o.dict=none
section
variable{Γ:Gam}{X:Cx}{G:List Addr}{F:Nat->List V->AH->RV}
theorem U9{x:Str}(h:okN x=true):(x==("__debug__":Str))=false/\(x==("__classdict__":Str))=false/\x≠"__name__":=by
 unfold okN at h;simp only[wB,Bool.not_eq_true',decide_eq_false_iff_not]at h;exact⟨h.1.1,h.1.2,h.2⟩
theorem Fit.gl'(f:Fit Γ X G F){x:Str}(h:glB Γ.sc x=true):_L.Gl X x:=by
 unfold _L.Gl Env.kindOf;rw[f.sc];simpa [glB] using h
theorem Fit.store(f:Fit Γ X G F){x:Str}(h:J6 Γ x=true):_L.Loc X.env.scope x/\(X.fn x=true\/X.env.scope.names.lookup x=some .local):=by
 rw[f.sc];unfold J6 at h;unfold _L.Loc;split at h
 ·rename_i e;exact⟨.inl e,.inr e⟩
 ·rename_i e;exact⟨.inr e,.inl (f.fn x h)⟩
 ·cases h
theorem y4(f:Fit Γ X G F):∀{es:List Expr}{is:List Nat},qDI Γ es=some is->PGs X es (tGs is)/\(assignEach es X.env).length=is.length/\(assignEach es X.env).findIdx? (·.1)=none
 | [],is,h=>by
  cases h;exact⟨qAp,rfl,rfl⟩
 |e::es,is,h=>by
  unfold qDI at h;split at h
  ·rename_i e1;cases e1
  ·rename_i x p r e1;cases e1;split at h
   ·rename_i hs;split at h
    ·rename_i i is' ei eis;cases h;obtain⟨h1,h2⟩:=f.store hs;obtain⟨g1,g2,g3⟩:=y4 f eis;refine⟨c7 (by rw[f.hN];exact f.nd) (by rw[f.hN];exact jl ei) h1 h2 g1,?_,?_⟩
     ·show (assignEach es X.env).length+1=_;rw[g2];rfl
     ·show (((false,assign (.Name x p) X.env)::assignEach es X.env).findIdx? (·.1))=none;rw[List.findIdx?_cons,g3];rfl
    ·cases h
   ·cases h
  ·cases h
theorem S4(f:Fit Γ X G F){tg:Expr}{g:Tg}(h:trT Γ tg=some g):SG X G tg g:=by
 unfold trT at h;split at h
 ·rename_i x p;split at h
  ·rename_i hs;obtain⟨i,ei,rfl⟩:=wA.mp h;obtain⟨h1,h2⟩:=f.store hs;exact U0 (by rw[f.hN];exact f.nd) (by rw[f.hN];exact jl ei) h1 h2
  ·cases h
 ·obtain⟨is,ei,rfl⟩:=wA.mp h;obtain⟨g1,g2,g3⟩:=y4 f ei;exact qCr f.calm g1 g2 g3
 ·cases h
theorem J4{op:CmpOp}{e:Expr}(h:ZZ e=true):behindInMarks op e=false:=by
 cases e<;>first|rfl|cases h
theorem X6{o1 o2:CmpOp}{b c:Expr}(h:ZZ c=true):lastMarks [o1,o2] [b,c]=false:=by
 show behindInMarks o2 c=false;exact J4 h
theorem O6{o1 o2 o3:CmpOp}{b c d:Expr}(h:ZZ d=true):lastMarks [o1,o2,o3] [b,c,d]=false:=by
 show behindInMarks o3 d=false;exact J4 h
theorem O7{iter:Expr}{env:Env}(h:ZZ iter=true):∀x,foldedSetIterable iter env x=pure x:=by
 intro x;cases iter<;>first|rfl|cases h
theorem m4{o:Expr}{n:Str}{env:Env}{w:Sem Value}(h:U2 o=true):attributeBase o n env w=w:=by
 cases o<;>first|rfl|cases h
theorem jm(f:Fit Γ X G F){scope:Scope}{N:List Str}{src:List (Option Nat)}(h:ZP Γ scope N src=true):_L.CompScope X scope N src:=by
 unfold ZP at h;simp only[wB,wb,vj]at h;obtain⟨⟨⟨⟨⟨h1,h2⟩,h4⟩,h5⟩,h6⟩,h7⟩:=h;refine⟨h1,h2,λy hy hk=>?_,h5,h6,λi x j e1 e2=>?_⟩
 ·unfold Env.kindOf;rw[f.sc];exact h4 y hy hk
 ·have hi:i<N.length:=(wC.mp e1).1;have:=h7 i (vN.mpr hi);rw[e1,e2]at this;rw[f.hN];simpa using this
theorem jA(f:Fit Γ X G F){scope:Scope}{N:List Str}{src:List (Option Nat)}(h:ZP Γ scope N src=true)(C:Addr)(fp:List Addr)(s:Shared)(H:Hp):
  Fit { Γ with N:=N,sc:=qDR scope Γ.sc,own:=λx=>decide (scope.names.lookup x=some .cell) } (_L.cxComp X scope C fp s H N) G F:=by
 have S:=jm f h;refine⟨rfl,S.nd,?_,f.calm,λx z=>z,λg x e=>?_,f.gls,f.blt,f.hu,f.gd,f.gtu⟩
 ·show relabel scope X.env=qDR scope Γ.sc;unfold relabel qDR Env.kindOf;rw[f.sc]
 ·exact⟨(f.fns g x e).ex⟩
theorem G0(n:Nat):
  (∀ Γ e a,trE n Γ e=some a->∀X:Cx,Fit Γ X G F->SE X G F e a/\ST X G F e a)/\
  (∀ Γ es as,trA n Γ es=some as->es.all qN=true->∀X:Cx,Fit Γ X G F->SA X G F es as)/\
  (∀ Γ op p vs a,trB n Γ op p vs=some a->∀X:Cx,Fit Γ X G F->SE X G F (.BoolOp op vs p) a/\SW X G F (.BoolOp op vs p) a)/\
  (∀ Γ f args a,trC n Γ f args=some a->okN f=true->glB Γ.sc f=true->args.all qN=true->∀X:Cx,Fit Γ X G F->∀p pos,SE X G F (.Call (.Name f p) args [] pos) a)/\
  (∀ Γ o as,trO n Γ o=some as->∀X:Cx,Fit Γ X G F->SO X G F o as)/\
  (∀ Γ ifs as,qBV n Γ ifs=some as->∀X:Cx,Fit Γ X G F->SC X G F ifs as)/\
  (∀ Γ tg iter it,trI n Γ tg iter=some it->∀X:Cx,Fit Γ X G F->SI X G F tg iter it):=by
 induction n with
 |zero=>exact⟨(λ_ _ _ h=>by unfold trE at h;cases h),(λ_ _ _ h=>by unfold trA at h;cases h),(λ_ _ _ _ _ h=>by unfold trB at h;cases h),(λ_ _ _ _ h=>by unfold trC at h;cases h),(λ_ _ _ h=>by unfold trO at h;cases h),(λ_ _ _ h=>by unfold qBV at h;cases h),(λ_ _ _ _ h=>by unfold trI at h;cases h)⟩
 |succ n ih=>
  obtain⟨iE,iA,iB,iC,iO,iIf,iI⟩:=ih;refine⟨?_,?_,?_,?_,?_,?_,?_⟩
  ·intro Γ e a h X f;unfold trE at h;split at h
   ·split at h
    ·cases h;exact⟨Q0,qS Q0 λ_=>rfl⟩
    ·cases h;exact⟨qCT,qS qCT λ_=>rfl⟩
    ·cases h;exact⟨w9,qS w9 λ_=>rfl⟩
    ·cases h;exact⟨l7,qS l7 λ_=>rfl⟩
    ·cases h
   ·rename_i x p;split at h
    ·rename_i ho;obtain⟨o1,o2,o3⟩:=U9 ho;split at h
     ·rename_i hv;obtain⟨i,ei,rfl⟩:=wA.mp h;have s1:SE X G F (.Name x p) (.var i):=qBe (by rw[f.hN];exact jl ei) (by rw[f.sc];exact qAC hv) o1 o2;exact⟨s1,qS s1 λ_=>rfl⟩
     ·split at h
      ·rename_i hg;rcases f.gls x a h with⟨v,u,rfl,e1,e2,e3⟩|⟨g,ad,rfl,e1,e2⟩
       ·have s1:SE X G F (.Name x p) (.cst v):=qA7 (f.gl' hg) e1 e2 e3 o1;exact⟨s1,qS s1 λ_=>rfl⟩
       ·have s1:SE X G F (.Name x p) (.glob g):=qA4 (f.gl' hg) e1 e2 o1;exact⟨s1,qS s1 λ_=>rfl⟩
      ·cases h
    ·cases h
   ·split at h
    ·rename_i o a' b' eo ea eb;cases h;rw[qAo eo];exact⟨n8 (iE _ _ _ ea X f).1 (iE _ _ _ eb X f).1,qS (n8 (iE _ _ _ ea X f).1 (iE _ _ _ eb X f).1) λ_=>rfl⟩
    ·cases h
   ·split at h
    ·obtain⟨a',ea,rfl⟩:=wA.mp h;have s1:=y6 (pos:=‹Pos›) (iE _ _ _ ea X f).1;exact⟨s1,qS s1 λ_=>rfl⟩
    ·obtain⟨a',ea,rfl⟩:=wA.mp h;exact⟨qB0 (iE _ _ _ ea X f).1,qCS (iE _ _ _ ea X f).2⟩
    ·cases h
   ·obtain⟨s1,s2⟩:=iB _ _ _ _ _ h X f;exact⟨s1,s2.pt⟩
   ·split at h
    ·rename_i op b0;split at h
     ·rename_i hs;split at h
      ·rename_i a' b' ea eb;cases h;rw[jw op];have e1:QJ (opC (QJ op))=QJ op:=by cases op<;>rfl
       rw[e1];exact⟨qCg f.hu (iE _ _ _ ea X f).1 (iE _ _ _ eb X f).1 (J4 hs),qBg f.hu (iE _ _ _ ea X f).1 (iE _ _ _ eb X f).1 (J4 hs)⟩
      ·cases h
     ·cases h
    ·rename_i o1 o2 b0 c0;split at h
     ·rename_i hs;split at h
      ·rename_i a' b' c' ea eb ec;cases h;rw[jw o1,jw o2];have e1:QJ (opC (QJ o1))=QJ o1:=by cases o1<;>rfl
       have e2:QJ (opC (QJ o2))=QJ o2:=by cases o2<;>rfl
       rw[e1,e2];exact⟨Y7 f.hu (iE _ _ _ ea X f).1 (iE _ _ _ eb X f).1 (iE _ _ _ ec X f).1 (X6 hs),c9 f.hu (iE _ _ _ ea X f).1 (iE _ _ _ eb X f).1 (iE _ _ _ ec X f).1 (X6 hs)⟩
      ·cases h
     ·cases h
    ·rename_i o1 o2 o3 b0 c0 d0;split at h
     ·rename_i hs;split at h
      ·rename_i a' b' c' d' ea eb ec ed;cases h;rw[jw o1,jw o2,jw o3];have e1:QJ (opC (QJ o1))=QJ o1:=by cases o1<;>rfl
       have e2:QJ (opC (QJ o2))=QJ o2:=by cases o2<;>rfl
       have e3:QJ (opC (QJ o3))=QJ o3:=by cases o3<;>rfl
       rw[e1,e2,e3];exact⟨P7 f.hu (iE _ _ _ ea X f).1 (iE _ _ _ eb X f).1 (iE _ _ _ ec X f).1 (iE _ _ _ ed X f).1 (O6 hs),U4 f.hu (iE _ _ _ ea X f).1 (iE _ _ _ eb X f).1 (iE _ _ _ ec X f).1 (iE _ _ _ ed X f).1 (O6 hs)⟩
      ·cases h
     ·cases h
    ·cases h
   ·split at h
    ·split at h
     ·split at h
      ·rename_i hc;simp only[wB]at hc;have s1:=iC _ _ _ _ h hc.1.1 hc.1.2 hc.2 X f;exact⟨s1 _ _,qS (s1 _ _) λ_=>rfl⟩
      ·cases h
     ·split at h
      ·split at h
       ·rename_i hc;obtain⟨rfl,hc1,hc2,hc3⟩:=hc;split at h
        ·rename_i o' x' eo ex;cases h;have s1:=qCt (m4 hc1) hc3 hc2 (iE _ _ _ eo X f).1 (iE _ _ _ ex X f).1;exact⟨s1,qS s1 λ_=>rfl⟩
        ·cases h
       ·cases h
      ·split at h
       ·rename_i hm;subst hm;split at h
        ·rename_i hc;obtain⟨o',eo,rfl⟩:=wA.mp h;have s1:=qBL f.calm f.hu f.gd (m4 hc.1) hc.2 (iE _ _ _ eo X f).1;exact⟨s1,qS s1 λ_=>rfl⟩
        ·cases h
       cases h
      ·cases h
     ·cases h
    ·cases h
   ·split at h
    ·split at h
     ·split at h
      ·rename_i a' l h' ea el eh;cases h;exact⟨qB7 (iE _ _ _ ea X f).1 (iO _ _ _ el X f) (iO _ _ _ eh X f),qS (qB7 (iE _ _ _ ea X f).1 (iO _ _ _ el X f) (iO _ _ _ eh X f)) λ_=>rfl⟩
      ·cases h
     ·split at h
      ·obtain⟨a',ea,rfl⟩:=wA.mp h;exact⟨o8 (iE _ _ _ ea X f).1 (B0 qB2),qS (o8 (iE _ _ _ ea X f).1 (B0 qB2)) λ_=>rfl⟩
      ·cases h
    ·split at h
     ·rename_i hs;split at h
      ·rename_i a' b' ea eb;cases h;have s1:=qBp (pos:=‹Pos›) hs (iE _ _ _ ea X f).1 (iE _ _ _ eb X f).1;exact⟨s1,qS s1 λ_=>rfl⟩
      ·cases h
     ·cases h
   ·split at h
    ·rename_i hs;obtain⟨a',ea,rfl⟩:=wA.mp h;have s1:=qCW (pos:=‹Pos›) (iA _ _ _ ea hs X f);exact⟨s1,qS s1 λ_=>rfl⟩
    ·cases h
   ·split at h
    ·rename_i hs;obtain⟨a',ea,rfl⟩:=wA.mp h;exact⟨o0 (iA _ _ _ ea hs X f),qS (o0 (iA _ _ _ ea hs X f)) λ_=>rfl⟩
    ·cases h
   ·split at h
    ·cases h;exact⟨P6,qS P6 λ_=>rfl⟩
    ·cases h
   ·split at h
    ·split at h;split at h
     ·dsimp only at h;split at h
      ·rename_i hc;simp only[wB]at hc;split at h
       ·rename_i it g c e' ei eg ec ee;cases h;have s1:=O5 (pos:=‹Pos›) f.calm (iI _ _ _ _ ei X f) (jm f hc.1) (λC fp s H=>S4 (jA f hc.1 C fp s H) eg) (λC fp s H=>iIf _ _ _ ec _ (jA f hc.1 C fp s H)) (λC fp s H=>(iE _ _ _ ee _ (jA f hc.1 C fp s H)).1) (O7 hc.2);exact⟨s1,qS s1 λ_=>rfl⟩
       ·cases h
      ·cases h
     ·cases h
    ·cases h
   ·cases h
  ·intro Γ es as h hs X f;cases es with
   |nil=>simp only[trA]at h;cases h;exact qBX
   |cons e es=>
    simp only[trA]at h;simp only[List.all_cons,wB]at hs;split at h
    ·rename_i a as ea eas;cases h;exact qAM hs.1 (iE _ _ _ ea X f).1 (iA _ _ _ eas hs.2 X f)
    ·cases h
  ·intro Γ op p vs a h X f;cases vs with
   |nil=>simp only[trB]at h;cases h
   |cons e r=>
    cases r with
    |nil=>
     simp only[trB]at h;obtain⟨s1,s2⟩:=iE _ _ _ h X f;refine⟨_L.pe_one s1,?_⟩;cases op with
     |And=>exact _L.pw_and1 s2
     |Or=>exact _L.pw_or1 s2
    |cons b r=>
     simp only[trB]at h;split at h
     ·rename_i a' b' ea eb;cases h;obtain⟨s1,s2⟩:=iE _ _ _ ea X f;obtain⟨s3,s4⟩:=iB _ _ _ _ _ eb X f;cases op with
      |And=>exact⟨qBa s1 s3,qCB s2 s4⟩
      |Or=>exact⟨qDr s1 s3,qDu s2 s4⟩
     ·cases h
  ·intro Γ g args a h ho hg hs X f p pos;obtain⟨o1,o2,o3⟩:=U9 ho;unfold trC at h;split at h
   ·rename_i i ei;obtain⟨as,ea,rfl⟩:=wA.mp h;have sA:=iA _ _ _ ea hs X f;cases args with
    |nil=>
     have:as=.nil:=by
      cases n with
      |zero=>simp only[trA]at ea;cases ea
      |succ m=>simp only[trA]at ea;cases ea;rfl
     subst this;exact Z6 (f.fns i g (jl ei)) (f.gl' hg) o1
    |cons e es=>
     simp only[List.all_cons,wB]at hs;exact qAK (f.fns i g (jl ei)) (f.gl' hg) o1 hs.1 hs.2 sA
   ·split at h
    ·rename_i hb;split at h
     ·rename_i hi;subst hi;split at h
      ·rename_i e0 t pt;split at h
       ·rename_i hc;simp only[wB]at hc;obtain⟨t1,t2,t3⟩:=U9 hc.1.1;split at h
        ·rename_i a' t' ea et;cases h;obtain⟨b1,b2⟩:=qAj et;simp only[List.all_cons,wB]at hs;exact qCP b2 (f.gl' hg) (f.blt _ hb) (f.gl' hc.1.2) (f.blt _ hc.2) b1 t3 t1 hs.1 (iE _ _ _ ea X f).1
        ·cases h
       ·cases h
      ·cases h
     ·split at h
      ·rename_i hl;obtain⟨rfl,_⟩:=hl;split at h
       ·rename_i r pr e0 pc;split at h
        ·rename_i hc;simp only[wB,vj]at hc;obtain⟨⟨⟨⟨c1,c2⟩,c3⟩,c4⟩,rfl⟩:=hc;obtain⟨a',ea,rfl⟩:=wA.mp h;exact qAG f.calm (f.gl' hg) (f.blt _ hb) (f.gl' c2) (f.blt _ c3) c4 (iE _ _ _ ea X f).1
        ·cases h
       ·cases h
      rename_i hneg;clear hneg;split at h
      ·rename_i hl;obtain⟨rfl,_⟩:=hl;split at h
       ·rename_i r pr e0 pc;split at h
        ·rename_i hc;simp only[wB,vj]at hc;obtain⟨⟨⟨⟨c1,c2⟩,c3⟩,c4⟩,rfl⟩:=hc;obtain⟨a',ea,rfl⟩:=wA.mp h;exact qBH f.calm (f.gl' hg) (f.blt _ hb) (f.gl' c2) (f.blt _ c3) c4 (iE _ _ _ ea X f).1
        ·cases h
       ·cases h
      rename_i hneg;clear hneg;split at h
      ·rename_i hl;obtain⟨rfl,_⟩:=hl;split at h
       ·rename_i r pr e0 pc;split at h
        ·rename_i hc;simp only[wB,vj]at hc;obtain⟨⟨⟨⟨c1,c2⟩,c3⟩,c4⟩,rfl⟩:=hc;obtain⟨a',ea,rfl⟩:=wA.mp h;exact qAH f.calm (f.gl' hg) (f.blt _ hb) (f.gl' c2) (f.blt _ c3) c4 (iE _ _ _ ea X f).1
        ·cases h
       ·cases h
      rename_i hneg;clear hneg;split at h
      ·rename_i b e es eb;obtain⟨as,ea,rfl⟩:=wA.mp h;have sA:=iA _ _ _ ea hs X f;simp only[List.all_cons,wB]at hs;exact qCm f.calm f.hu f.gd (f.gl' hg) (f.blt _ hb) (qBv eb) hs.1 hs.2 sA o3 o1
      ·cases h
    ·cases h
  ·intro Γ o as h X f;cases o with
   |none=>simp only[trO]at h;cases h;exact qAn
   |some e=>
    simp only[trO]at h;obtain⟨a,ea,rfl⟩:=wA.mp h;exact B0 (iE _ _ _ ea X f).1
  ·intro Γ ifs as h X f;cases ifs with
   |nil=>simp only[qBV]at h;cases h;exact qCI
   |cons e r=>
    cases r with
    |nil=>
     simp only[qBV]at h;obtain⟨a,ea,rfl⟩:=wA.mp h;exact qBt (iE _ _ _ ea X f).2
    |cons b r=>simp only[qBV]at h;cases h
  ·intro Γ tg iter it h X f;unfold trI at h;split at h
   ·rename_i fn p args pos;split at h
    ·rename_i hf;subst hf;split at h
     ·rename_i hc;simp only[wB]at hc;split at h
      ·rename_i e;obtain⟨a,ea,rfl⟩:=wA.mp h;have hs:=hc.2;simp only[List.all_cons,wB]at hs;exact qA9 (f.gl' hc.1.1) (f.blt _ hc.1.2) hs.1 (iE _ _ _ ea X f).1
      ·rename_i e e2;split at h
       ·rename_i a' b' ea eb;cases h;have hs:=hc.2;simp only[List.all_cons,wB]at hs;exact qAm (f.gl' hc.1.1) (f.blt _ hc.1.2) hs.1 hs.2.1 (iE _ _ _ ea X f).1 (iE _ _ _ eb X f).1
       ·cases h
      ·split at h
       ·rename_i a' b' c' ea eb ec;split at h
        ·rename_i hm1;cases h;have hs:=hc.2;simp only[List.all_cons,wB]at hs;exact qAv (f.gl' hc.1.1) (f.blt _ hc.1.2) hs.1 hs.2.1 hs.2.2.1 (iE _ _ _ ea X f).1 (iE _ _ _ eb X f).1 (iE _ _ _ ec X f).1 hm1
        ·cases h
       ·cases h
      ·cases h
     ·cases h
    ·split at h
     ·rename_i hf;subst hf;split at h
      ·rename_i hc;simp only[wB]at hc;split at h
       ·split at h
        ·rename_i a' b' ea eb;cases h;have hs:=hc.2;simp only[List.all_cons,wB]at hs;exact qBi (f.gl' hc.1.1) (f.blt _ hc.1.2) hs.1 hs.2.1 (iE _ _ _ ea X f).1 (iE _ _ _ eb X f).1
        ·cases h
       ·cases h
      ·cases h
     ·split at h
      ·rename_i hf;subst hf;split at h
       ·rename_i hc;simp only[wB]at hc;split at h
        ·obtain⟨a,ea,rfl⟩:=wA.mp h;have hs:=hc.2;simp only[List.all_cons,wB]at hs;exact qAy (f.gl' hc.1.1) (f.blt _ hc.1.2) hs.1 (iE _ _ _ ea X f).1
        ·cases h
       ·cases h
      ·obtain⟨a,ea,rfl⟩:=wA.mp h;exact S6 (iE _ _ _ ea X f).1
   ·obtain⟨a,ea,rfl⟩:=wA.mp h;exact S6 (iE _ _ _ ea X f).1
end
open _L (FnOk Fun zN Binds Room)
section
variable{G:List Addr}{F:Nat->List V->AH->RV}
theorem Zs{Γ:Gam}{X:Cx}(f:Fit Γ X G F)(hx:∀x,Γ.own x=true){n:Nat}{elt:Expr}{gens:List Comprehension}{scope:Scope}{cpos p pos:Pos}{a:E}{x:Str}{g:Tg}(hd:qEd a=true)(h:trE n Γ (.ListComp elt gens scope cpos)=some a)
  (hg:trT Γ (.Name x ⟨0,0,0,0⟩)=some g):SS X G F (.Assign [.Name x p] (.ListComp elt gens scope cpos) pos) (.asg g a):=by
 cases n with
 |zero=>unfold trE at h;cases h
 |succ n=>
  unfold trT at hg;dsimp only at hg;split at hg
  ·rename_i hs;obtain⟨i,ei,rfl⟩:=wA.mp hg;obtain⟨h1,h2⟩:=f.store hs;obtain⟨iE,iA,iB,iC,iO,iIf,iI⟩:=G0 (G:=G) (F:=F) n;unfold trE at h;dsimp only at h;split at h
   ·split at h;split at h
    ·split at h
     ·rename_i hc;simp only[wB]at hc;split at h
      ·rename_i it g c e' ei' eg ec ee;cases h;exact qBG f.calm (iI _ _ _ _ ei' X f) (jm f hc.1) (λC fp s H=>S4 (jA f hc.1 C fp s H) eg) (λC fp s H=>iIf _ _ _ ec _ (jA f hc.1 C fp s H)) (λC fp s H=>(iE _ _ _ ee _ (jA f hc.1 C fp s H)).1) (O7 hc.2) (by rw[f.hN];exact f.nd) (by rw[f.hN];exact jl ei) h1 h2
      ·cases h
     ·cases h
    ·cases h
   ·cases h
  ·cases hg
theorem R6(n:Nat):(∀ Γ st (X:Cx),Fit Γ X G F->(∀x,Γ.own x=true)->X.xe=(λ_ _=>False)->SS X G F st (trS n Γ st))/\(∀ Γ sts (X:Cx),Fit Γ X G F->(∀x,Γ.own x=true)->X.xe=(λ_ _=>False)->SSs X G F sts (N6 n Γ sts)):=by
 induction n with
 |zero=>
  refine⟨fun Γ st X f ho hx=>?_,fun Γ sts X f ho hx=>?_⟩
  ·unfold trS;exact qQ
  ·unfold N6;intro pins s σ H D I q;obtain⟨φ,h,σa,o,h',R,rs,e,k⟩:=q;unfold exs ex at e;cases e
 |succ n ih=>
  obtain⟨i1,i2⟩:=ih;obtain⟨iE,iA,iB,iC,iO,iIf,iI⟩:=G0 (G:=G) (F:=F) 60;refine⟨fun Γ st X f ho hx=>?_,fun Γ sts X f ho hx=>?_⟩
  ·unfold trS;split
   ·split
    ·split
     ·rename_i v pos _ _ x p;split
      ·rename_i g a eg ea;split
       ·rename_i hd;by_cases hc:jX v=true
        ·refine Qp (_L.ps_asg (iE _ _ _ ea X f).1 (S4 f (tg:=.Name x p) eg) (jp hc) (by cases v<;>rfl) rfl) λ_ _ _=>G8
        ·cases v with
         |ListComp elt gens scope cpos=>exact Zs f ho hd ea eg
         |SetComp elt gens scope cpos=>unfold trE at ea;cases ea
         |DictComp k elt gens scope cpos=>unfold trE at ea;cases ea
         |_=>exact absurd rfl hc
       ·exact qQ
      ·exact qQ
     ·split
      ·exact qQ
      ·split
       ·rename_i hc;simp only[wB]at hc;split
        ·rename_i g a eg ea;have hg:=eg;unfold trT at hg;obtain⟨is,ei,rfl⟩:=wA.mp hg;exact qC7 (S4 f eg) (iE _ _ _ ea X f).1 hc.1 hc.2
        ·exact qQ
       ·exact qQ
     ·split
      ·rename_i hc;simp only[wB]at hc;split
       ·rename_i o' i' v' eo ei ev;exact qCX f.hu (iE _ _ _ eo X f).1 (iE _ _ _ ei X f).1 (iE _ _ _ ev X f).1 hc.1 hc.2
       ·exact qQ
      ·exact qQ
     ·exact qQ
    ·exact qQ
   ·split
    ·rename_i hc;split
     ·rename_i a ea;exact qBJ (iE _ _ _ ea X f).1 hc
     ·exact qQ
    ·exact qQ
   ·split
    ·split
     ·rename_i a ea;exact qBh (iE _ _ _ ea X f).1
     ·exact qQ
    ·exact qQ
   ·split
    ·rename_i a ea;exact qC9 (iE _ _ _ ea X f).2 (i2 _ _ X f ho hx) (i2 _ _ X f ho hx)
    ·exact qQ
   ·split
    ·split
     ·rename_i hs;split
      ·rename_i it g ei eg;exact qBY hx f.calm (iI _ _ _ _ ei X f) (S4 f eg) (i2 _ _ X f ho hx) (O7 hs)
      ·exact qQ
     ·exact qQ
    ·exact qQ
   ·split
    ·split
     ·rename_i a ea;exact j6 hx (iE _ _ _ ea X f).2 (i2 _ _ X f ho hx)
     ·exact qQ
    ·exact qQ
   ·split
    ·split
     ·rename_i hc;split
      ·rename_i o' i' v' eo ei ev;split
       ·rename_i hp;simp only[wB]at hp;exact qBj (iE _ _ _ eo X f).1 (iE _ _ _ ei X f).1 (iE _ _ _ ev X f).1 hc hp.1.1 hp.1.2 hp.2
       ·exact qQ
      ·exact qQ
     ·exact qQ
    ·exact qQ
   ·exact qQ
  ·cases sts with
   |nil=>unfold N6;exact qAc
   |cons s r=>unfold N6;exact Z2 (i1 _ _ X f ho hx) (i2 _ _ X f ho hx)
end
theorem len1{α:Type}{us:List α}(h:us.length=1):∃a,us=[a]:=List.length_eq_one_iff.mp h
theorem len2{α:Type}{us:List α}(h:us.length=2):∃a b,us=[a,b]:=by
 cases us with
 |nil=>cases h
 |cons a r=>obtain⟨b,rfl⟩:=len1 (us:=r) (by simpa using h);exact⟨a,b,rfl⟩
theorem len3{α:Type}{us:List α}(h:us.length=3):∃a b c,us=[a,b,c]:=by
 cases us with
 |nil=>cases h
 |cons a r=>obtain⟨b,c,rfl⟩:=len2 (us:=r) (by simpa using h);exact⟨a,b,c,rfl⟩
structure K4 where
 x:Str
 st:Stmt
 ps:List Str
 N:List Str
set_option genInjectivity false in structure Tbl where
 ds:List K4
 gl:List (Str×E)
 bl:List Str
 cls:List Str:=[]
 xr:List Str:=[]
noncomputable def Tbl.gam(T:Tbl)(d:K4):Gam:=⟨d.N,_L.defScope d.st,T.ds.map (·.x),T.gl,T.bl,λ_=>true,T.cls,T.xr.contains d.x⟩
noncomputable def Tbl.fn(T:Tbl)(d:K4):Fn:=⟨d.ps.length,d.N.length,N6 60 (T.gam d) (_L.defBody d.st)⟩
noncomputable def Tbl.fns(T:Tbl):List Fn:=T.ds.map T.fn
structure j8(K:PySem.W.Frag)(mg:Str->Option Value)(G:List Addr)(T:Tbl)(fa:List Addr)(fd:List FuncData):Prop where
 def_:∀(i:Nat) d,T.ds[i]?=some d->∃a f,fa[i]?=some a/\fd[i]?=some f/\Fun K d.x d.x d.st a f/\zN d.N d.ps (_L.defScope d.st)/\mg d.x=some (.ref a)/\Binds K f d.ps []
 gls:∀x e,T.gl.lookup x=some e->(∃v u,e=.cst v/\mg x=some u/\RelV v u/\∀φ,rv φ v v)\/(∃g a,e=.glob g/\mg x=some (.ref a)/\G[g]?=some a)
 blt:∀x,T.bl.contains x=true->mg x=none
 gtu:∀a∈G,∃o,K.lookup a=some o/\o.cls=.type "tuple"/\o.dict=none
theorem Q7{φ:List Addr}{ws vs:List V}(r:rvs φ ws vs)(n:Nat):rst φ (ws.map some++List.replicate n none) (vs.map some++List.replicate n none):=by
 refine qP ?_ ?_
 ·induction r with
  |nil=>exact .nil
  |cons h t ih=>exact .cons ⟨_,rfl,h⟩ ih
 ·induction n with
  |zero=>exact .nil
  |succ n ih=>exact .cons trivial ih
section
variable{P:Program}{w:World}{K:PySem.W.Frag}{mg:Str->Option Value}{base:Heap}{G:List Addr}{T:Tbl}{fa:List Addr}{fd:List FuncData}
theorem qCL{k i:Nat}{d:K4}(h1:T.ds[i]?=some d){ws:List V}{h h':AH}{v:V}(e:Fk T.fns (k+1) i ws h=.ok (v,h')):ws.length=d.ps.length/\d.ps.length<=d.N.length/\∃o,exs (Fk T.fns k) (N6 60 (T.gam d) (_L.defBody d.st)) (ws.map some++List.replicate (d.N.length-d.ps.length) none) h=.ok (o,h')/\
  ((∃σ,o=.nx σ/\v=.non)\/o=.rt v):=by
 unfold Fk at e;have ht:T.fns[i]?=some (T.fn d):=by unfold Tbl.fns;rw[we,h1];rfl
 rw[ht]at e;dsimp only at e;split at e
 ·rename_i hc;obtain⟨⟨o,h2⟩,e2,e⟩:=tN e;have e4:exs (Fk T.fns k) (N6 60 (T.gam d) (_L.defBody d.st)) (ws.map some++List.replicate (d.N.length-d.ps.length) none) h=.ok (o,h2):=e2;refine⟨hc.1,hc.2,o,?_,?_⟩
  ·cases o<;>cases e<;>exact e4
  ·cases o with
   |nx σ=>cases e;exact .inl ⟨σ,rfl,rfl⟩
   |rt u=>cases e;exact .inr rfl
   |bk σ=>cases e
   |ct σ=>cases e
 ·cases e
theorem qCA(O:j8 K mg G T fa fd){k:Nat}{d:K4}(f0:∀(i:Nat) d a f,T.ds[i]?=some d->fa[i]?=some a->fd[i]?=some f->FnOk P w K mg base _L.CX0 (2*k) a f d.ps (spF G (Fk T.fns k) K i))
  (hS:zN d.N d.ps (_L.defScope d.st)) (CX:_L.CXT) (a:Addr) (cdv:Value) (A:Around) (outer:List Env) (s:Shared) (H:Hp) (E:_L.XK) (E2:Value->Shared->Prop) (hr:Room (2*k+1) (A.deeper (envOfC d.x (_L.defScope d.st) s.heap.objs.size a cdv))):
  Fit (T.gam d) ((_L.cxOf CX P w K mg base d.N d.x (_L.defScope d.st) a cdv A outer s H E).wish E2) G (Fk T.fns k):=by
 have get:∀(g:Nat) x,(T.gam d).fns[g]?=some x->∃d2 a2 f2,T.ds[g]?=some d2/\d2.x=x/\fa[g]?=some a2/\fd[g]?=some f2/\mg x=some (.ref a2)/\PySem.W.keepIn K (.ref a2)=true/\Binds K f2 d2.ps []:=λg x eg=>by
  have eg':(T.ds.map (·.x))[g]?=some x:=eg;rw[we]at eg';cases hd:T.ds[g]? with
  |none=>rw[hd]at eg';cases eg'
  |some d2=>
   rw[hd]at eg';cases eg';obtain⟨a2,f2,q1,q2,q3,q4,q5,q6⟩:=O.def_ g d2 hd;exact⟨d2,a2,f2,rfl,rfl,q1,q2,q5,q3.kp,q6⟩
 refine⟨rfl,hS.nd,rfl,rfl,λ_ _=>rfl,λg x eg=>?_,O.gls,O.blt,?_,hr.gd,O.gtu⟩
 ·obtain⟨d2,a2,f2,q1,rfl,q2,q3,q4,q5,q6⟩:=get g x eg;exact⟨2*k,a2,f2,d2.ps,f0 g d2 a2 f2 q1 q2 q3,hr.mono (vd _),q4,q5,q6,hr.in1⟩
 ·have:=hr.units;show (A.deeper (envOfC d.x (_L.defScope d.st) s.heap.objs.size a cdv)).units+8<cLine;omega
theorem C6(O:j8 K mg G T fa fd):∀(k:Nat) (i:Nat) d a f,T.ds[i]?=some d->fa[i]?=some a->fd[i]?=some f->FnOk P w K mg base _L.CX0 (2*k) a f d.ps (spF G (Fk T.fns k) K i)
 | 0=>λi d a f h1 h2 h3=>⟨(λvs H Q E h=>by obtain⟨_,_,_,_,_,_,_,e,_⟩:=h;unfold Fk at e;cases e),(λA outer s H args us vs Q E hr e0 hb r h=>by obtain⟨_,_,_,_,_,_,_,e,_⟩:=h;unfold Fk at e;cases e)⟩
 |k+1=>by
  have f0:=C6 O k;refine λi d a f h1 h2 h3=>?_;obtain⟨a',f',e1,e2,hF,hS,hm,hB⟩:=O.def_ i d h1;rw[h2]at e1;cases e1;rw[h3]at e2;cases e2;refine hF.ok hS (λvs H Q E h=>?_) (λcdv A outer s H vs Q E hr h=>?_)
  ·obtain⟨φ,h0,ws,v,h',R,r,e,_⟩:=h;rw[<-Paired.length r];exact(qCL h1 e).1
  ·obtain⟨φ,h0,ws,v,h',R,r,e,kk⟩:=h;obtain⟨l1,l2,o,eo,ho⟩:=qCL h1 e;have fit:=qCA O f0 hS _L.CX0 a cdv A outer s H E (λ_ _=>False) hr;refine⟨_,(R6 (G:=G) (F:=Fk T.fns k) 60).2 (T.gam d) (_L.defBody d.st) _ fit (λ_=>rfl) rfl,φ,h0,_,o,h',R,?_,eo,λφ' H' x' R'=>?_⟩
   ·unfold _L.start;rw[<-Paired.length r,l1];exact Q7 r _
   ·rcases ho with⟨σ,rfl,rfl⟩|rfl
    ·exact λσc _=>kk φ' H' .non x' R' trivial
    ·exact λu ru=>kk φ' H' u x' R' ru
end
noncomputable def d7(K:PySem.W.Frag):_L.Sp:=λvs H Q _=>∃(a:Addr) (ns:List Int),vs=[.ref a]/\_L.Only H/\SqL K H a (ns.map V.int)/\ns.length<=63/\∀H',Q (.bl true) H'
noncomputable def Jg(gs:List O)(ns:List Int):AH:=gs++[.lst true (ns.map V.int)]
def D0(K:PySem.W.Frag):List Addr->List O->Prop
 | [],[]=>True
 |a::as,.tup xs::os=>(SqT K (λ_=>none) a xs/\xs.all flat=true)/\D0 K as os
 |_,_=>False
theorem Zm{φ:List Addr}:∀{xs:List V},xs.all flat=true->rvs φ xs xs
 | [],_=>.nil
 |x::xs,h=>by
  simp only[List.all_cons,wB]at h;refine .cons ?_ (Zm h.2);cases x<;>first|rfl|exact trivial|(cases h.1)
theorem Y5{K:PySem.W.Frag}{H:Hp}{a:Addr}{xs:List V}(q:SqT K (λ_=>none) a xs):SqT K H a xs:=by
 rcases q with(h|⟨o,h⟩)|h
 ·cases h
 ·cases h
 ·exact .inr h
theorem ZF{K:PySem.W.Frag}:∀{as:List Addr}{os:List O},D0 K as os->as.length=os.length/\∀(i:Nat) o a,os[i]?=some o->as[i]?=some a->∃xs,o=.tup xs/\SqT K (λ_=>none) a xs/\xs.all flat=true
 | [],[],_=>⟨rfl,λi o a h=>by simp at h⟩
 | [],_::_,h=>False.elim h
 |_::_,[],h=>False.elim h
 |a::as,.lst _ _::os,h=>False.elim h
 |a::as,.tup xs::os,h=>by
  obtain⟨h1,h2⟩:=h;obtain⟨l,k⟩:=ZF h2;refine⟨by simp[l],λi o b e1 e2=>?_⟩;cases i with
  |zero=>simp at e1 e2;subst e1 e2;exact⟨xs,rfl,h1⟩
  |succ i=>exact k i o b (by simpa using e1) (by simpa using e2)
theorem Q5{P:Program}{w:World}{K:PySem.W.Frag}{mg:Str->Option Value}{base:Heap}{G:List Addr}{gs:List O}{T:Tbl}{fa:List Addr}{fd:List FuncData}(O:j8 K mg G T fa fd)(hG:D0 K G gs){k i:Nat}{d:K4}{a:Addr}{f:FuncData}
  (h1:T.ds[i]?=some d) (h2:fa[i]?=some a) (h3:fd[i]?=some f) (hp:d.ps=(["_law_script"]:List Str)) (main:∀ns:List Int,ns.length<=63->∃h',Fk T.fns k i [.ref gs.length] (Jg gs ns)=.ok (.bl true,h')):
  FnOk P w K mg base _L.CX0 (2*k) a f (["_law_script"]:List Str) (d7 K):=by
 have F:=C6 (P:=P) (w:=w) (base:=base) O k i d a f h1 h2 h3;rw[hp]at F;refine⟨λvs H Q E h=>by obtain⟨b,ns,rfl,_⟩:=h;rfl,λA outer s H args us vs Q E hr e0 hb r h=>?_⟩;obtain⟨b,ns,rfl,hO,hS,hl,q⟩:=h;obtain⟨h',e⟩:=main ns hl;obtain⟨lg,kg⟩:=ZF hG;refine F.run A outer s H args us _ Q E hr e0 hb r ⟨G++[b],Jg gs ns,[.ref gs.length],.bl true,h',⟨by unfold Jg;simp[lg],⟨[b],rfl⟩,λj o c e1 e2=>?_,λj l xs ys c e1 e2 e3 e4=>?_⟩,.cons (by show (G++[b])[gs.length]?=some b;rw[<-lg];simp) .nil,e,λφ' H' u x' R' ru=>by rw[zE ru];exact q H'⟩
 ·unfold Jg at e1;by_cases hj:j<gs.length
  ·rw[wD hj]at e1;rw[wD (by omega)]at e2;obtain⟨xs,rfl,h5,h6⟩:=kg j o c e1 e2;exact⟨xs,Y5 h5,Zm h6⟩
  ·have hj':j=gs.length:=by
    have:=(wC.mp e1).1;simp at this;omega
   subst hj';simp at e1;rw[<-lg]at e2;simp at e2;subst e1 e2;refine⟨ns.map V.int,?_,Zm (zP ns)⟩;rcases hS with(z|⟨ob,z⟩)|z
   ·rcases hO b with y|⟨ob,xs,y⟩<;>(rw[y]at z;cases z)
   ·exact .inl ⟨ob,z⟩
   ·exact .inr (.inr z)
 ·have no:∀{m:Nat}{z:_P.O},z.mu=true->(Jg gs ns)[m]?=some z->False:=λ{m zs} mz em=>by
   unfold Jg at em;by_cases hj:m<gs.length
   ·rw[wD hj]at em;obtain⟨xs,ex,_⟩:=kg m _ (G[m]'(by omega)) em (wE (by omega));subst ex;cases mz
   ·have hj':m=gs.length:=by
     have:=(wC.mp em).1;simp at this;omega
    subst hj';simp at em;subst em;cases mz
  exact(no ‹_› ‹_›).elim
open _L
abbrev qBn(K:PySem.W.Frag)(d:K4):Prop:=∃(f:Addr) (oc:Value) (od an:Option Addr) (sl:Array (Option Value)) (kV dc pm cd ct:Value),PySem.W.nsIn K mainGlobals d.x=some (some (.ref f))/\K.lookup f=some ⟨oc,od,.func (PySem.W.fnOf d.x d.x (zX d.st) (defBody d.st) (defScope d.st) .none kV dc pm an cd ct),sl⟩/\PySem.W.codeIn K cd d.x=true/\PySem.W.keepIn K (.ref f)=true
structure qBW(d:K4):Prop where
 sc:zN d.N d.ps (defScope d.st)
 bd:∀(kV doc pm:Value) (an:Option Addr) (cdv ct:Value) (us:List Value),us.length=d.ps.length->bindArgs (PySem.W.fnOf d.x d.x (zX d.st) (defBody d.st) (defScope d.st) .none kV doc pm an cdv ct) ⟨us,[]⟩=pure (d.ps.zip us)
theorem v7{K:PySem.W.Frag}{h:Heap}{mg:Str->Option Value}(X:K.In h)(G:h.Ns mainGlobals mg):∀(ds:List K4),(∀d∈ds,qBn K d)->(∀d∈ds,qBW d)->∃(fa:List Addr) (fd:List FuncData),∀(i:Nat) d,ds[i]?=some d->∃a f,fa[i]?=some a/\fd[i]?=some f/\Fun K d.x d.x d.st a f/\zN d.N d.ps (_L.defScope d.st)/\mg d.x=some (.ref a)/\Binds K f d.ps []
 | [],_,_=>⟨[],[],λi d h=>by simp at h⟩
 |d::ds,h,hk=>by
  obtain⟨fa,fd,k⟩:=v7 X G ds (λx hx=>h x (by simp[hx])) λx hx=>hk x (by simp[hx]);obtain⟨f,oc,od,an,sl,kV,dc,pm,cd,ct,h1,h2,h3,h4⟩:=h d (by simp);have hd:=hk d (by simp);refine⟨f::fa,PySem.W.fnOf d.x d.x (zX d.st) (defBody d.st) (defScope d.st) .none kV dc pm an cd ct::fd,λi e he=>?_⟩;cases i with
  |zero=>cases he;exact⟨_,_,rfl,rfl,u9 h2 h3 h4,hd.sc,PySem.W.mg_of X G h1,(u9 h2 h3 h4).binds hd.bd⟩
  |succ i=>exact k i e he
theorem qDk{K:PySem.W.Frag}{d:K4}{a:Addr}{f:FuncData}{x:Str}(F:Fun K d.x d.x d.st a f)(h:qBW d)(hp:d.ps=[x])(s:Shared)(v:Value):BindsTo s f ⟨[v],[]⟩ [(x,v)]:=by
 obtain⟨oc,od,kV,doc,pm,an,cdv,ct,osl,rfl,lk,hcd⟩:=F.ex;refine .of_eq ?_;rw[h.bd kV doc pm an cdv ct [v] (by rw[hp];rfl),hp];rfl
inductive T where
 |v (x:V)|cell (n:Nat)|fz (xs:List T)|lst (xs:List T)|tup (xs:List T)|ob (o:Ob)
noncomputable abbrev Mem:=List (List T)
noncomputable abbrev TS:=List (Option T)
inductive PR(α:Type)|ok(a:α)|exc(c:Nat)(M:Mem)|stuck
noncomputable def PR.bind{α β:Type}:PR α->(α->PR β)->PR β
 | .ok a,f=>f a
 | .exc c M,_=>.exc c M
 | .stuck,_=>.stuck
@[simp] theorem tD{α β:Type}(a:α)(f:α->PR β):(PR.ok a).bind f=f a:=Eq.trans rfl rfl
@[simp] theorem PR.bind_stuck{α β:Type}(f:α->PR β):(PR.stuck:PR α).bind f=.stuck:=Eq.trans rfl rfl
noncomputable def PR.nx{α:Type}:PR α->PR α
 | .ok a=>.ok a
 | .exc _ _=>.stuck
 | .stuck=>.stuck
@[simp] theorem PR.nx_ok{α:Type}(a:α):(PR.ok a).nx=.ok a:=Eq.trans rfl rfl
@[simp] theorem PR.nx_stuck{α:Type}:(PR.stuck:PR α).nx=.stuck:=Eq.trans rfl rfl
noncomputable def tJ{α:Type}:Option α->PR α
 |some a=>.ok a
 |none=>.stuck
@[simp] theorem PR.ofO_some{α:Type}(a:α):tJ (some a)=.ok a:=Eq.trans rfl rfl
mutual
noncomputable def T.lf:T->Bool
 | .v _=>true
 | .ob (.exn _)=>true
 | .tup ts=>T.lfs ts
 |_=>false
noncomputable def T.lfs:List T->Bool
 | []=>true
 |t::ts=>T.lf t&&T.lfs ts
end
mutual
noncomputable def T.und(n:Nat):T->Bool
 | .v _=>true
 | .ob _=>true
 | .cell k=>decide (k<n)
 | .fz ts=>T.unds n ts
 | .lst ts=>T.unds n ts
 | .tup ts=>T.unds n ts
noncomputable def T.unds(n:Nat):List T->Bool
 | []=>true
 |t::ts=>T.und n t&&T.unds n ts
end
mutual
noncomputable def T.beq:T->T->Bool
 | .v x,.v y=>decide (x=y)
 | .cell x,.cell y=>decide (x=y)
 | .fz x,.fz y=>T.beqs x y
 | .lst x,.lst y=>T.beqs x y
 | .tup x,.tup y=>T.beqs x y
 | .ob x,.ob y=>decide (x=y)
 |_,_=>false
noncomputable def T.beqs:List T->List T->Bool
 | [],[]=>true
 |x::xs,y::ys=>T.beq x y&&T.beqs xs ys
 |_,_=>false
end
noncomputable abbrev ZH:=List (Nat×List T)
noncomputable def qk(d:ZH)(M:Mem):Bool:=d.all λp=>match M[p.1]? with|some ts=>T.beqs ts p.2|none=>false
noncomputable def T.its(M:Mem):T->Option (List T)
 | .lst xs=>some xs | .tup xs=>some xs | .fz xs=>some xs | .cell n=>M[n]? | _=>none
noncomputable def T.lis(M:Mem):T->Option (List T)
 | .lst xs=>some xs | .fz xs=>some xs | .cell n=>M[n]? | _=>none
noncomputable def T.mu(M:Mem):T->Option (List T)
 | .lst xs=>some xs | .cell n=>M[n]? | _=>none
noncomputable def qX:List T->Option (List Int)
 | []=>some []
 | .v (.int i)::r=>(qX r).map (i::·)
 |_::_=>none
noncomputable def jN:List T->Option (List Int)
 | []=>some []
 | .v (.int i)::r=>(jN r).map (i::·)
 | .v (.bl b)::r=>(jN r).map ((if b=true then 1 else 0)::·)
 |_=>none
noncomputable def zQ:List T->Option (List Bool)
 | []=>some []
 | .v (.bl i)::r=>(zQ r).map (i::·)
 |_::_=>none
noncomputable def zu:List T->Option (List V)
 | []=>some []
 | .v x::r=>(zu r).map (x::·)
 |_::_=>none
noncomputable def zg(f:T->T->Option Bool):List T->List T->Option (List Bool)
 | [],[]=>some []
 |x::xs,y::ys=>match f x y,zg f xs ys with
  |some b,some bs=>some (b::bs)
  |_,_=>none
 |_,_=>none
noncomputable def T.isV:T->Option V | .v x=>some x|_=>none
noncomputable def eqT(M:Mem):Nat->T->T->Option Bool
 | 0,s,t=>match s.isV,t.isV with|some x,some y=>eqF x y|_,_=>none
 |n+1,s,t=>match s.isV,t.isV with
  |some x,some y=>eqF x y
  |some _,none=>if (t.its M).isSome then some false else none
  |none,some _=>if (s.its M).isSome then some false else none
  |none,none=>match s.lis M,t.lis M with
   |some xs,some ys=>if xs.length=ys.length then (zg (eqT M n) xs ys).map λbs=>bs.all id else some false
   |some _,none=>if (t.its M).isSome then some false else none
   |none,some _=>if (s.its M).isSome then some false else none
   |none,none=>match s.its M,t.its M with
    |some xs,some ys=>if xs.length=ys.length then (zg (eqT M n) xs ys).map λbs=>bs.all id else (zg (eqT M n) (xs.take ys.length) (ys.take xs.length)).map λ_=>false
    |_,_=>none
noncomputable def ji(xs:List T)(lo hi:Option Int):List T:=(xs.drop (_H.sIx xs.length 0 lo)).take (_H.sIx xs.length xs.length hi-_H.sIx xs.length 0 lo)
noncomputable abbrev TB:=T×Bool
noncomputable def iT(i:Int):TB:=(.v (.int i),true)
noncomputable def bT(b:Bool):TB:=(.v (.bl b),true)
noncomputable def lT(xs:List T):TB:=(.lst xs,T.lfs xs)
noncomputable def Y1(x:T)(xs:List T)(lo hi:Option Int):Option TB:=match x with
 | .tup _=>if _H.sIx xs.length 0 lo=0/\_H.sIx xs.length xs.length hi=xs.length then none else some (.tup (ji xs lo hi),T.lfs (ji xs lo hi))
 |_=>some (lT (ji xs lo hi))
noncomputable def qc(M:Mem)(op:BOp)(x y:T):Option TB:=match x.isV,y.isV with
 |some (.int i),some (.int j)=>match op with
  | .add=>some (iT (i+j))
  | .sub=>some (iT (i-j))
  | .mul=>if small i||small j||(mid i&&mid j) then some (iT (i*j)) else none
  | .fdiv=>if 0<j/\(j<1073741824\/mid j=true) then some (iT (i / j)) else if j<0/\mid j=true then some (iT (i.fdiv j)) else none
  | .mod=>if 0<j then some (iT (i % j)) else if j<0 then some (iT (i.fmod j)) else none
  | .pow=>if 0<=j/\j<=1000/\i.natAbs<18446744073709551616 then some (iT (i ^ j.toNat)) else none
  | .band=>some (iT (PySem.Builtin.bitAnd i j))
  | .shl=>if 0<=j/\j<=1000/\i.natAbs<18446744073709551616 then some (iT (i*2 ^ j.toNat)) else none
 |none,some (.int k)=>match op with
  | .mul=>(x.mu M).bind λxs=>if 0<=k/\xs.length*k.toNat<=lim/\k<1000000 then some (lT (List.replicate k.toNat xs).flatten) else none
  |_=>none
 |none,none=>match op with
  | .add=>(match x,y with
   | .tup xs,.tup ys=>if xs≠[]/\xs.length+ys.length<=lim then some (.tup (xs++ys),T.lfs (xs++ys)) else none
   |x,y=>(x.mu M).bind λxs=>(y.mu M).bind λys=>if xs.length+ys.length<=lim then some (lT (xs++ys)) else none)
  |_=>none
 |_,_=>none
noncomputable def T.dct:T->Option (List (Int×V))
 | .ob (.dct kvs)=>some kvs
 |_=>none
noncomputable def inT(M:Mem)(x y:T):Option Bool:=match y.dct with
 |some kvs=>(match x with | .v (.int i)=>some (qBS kvs i)|_=>none)
 |none=>x.isV.bind λa=>(y.its M).bind λts=>(zu ts).map λxs=>xs.any λz=>_L.eqV z a
noncomputable def qu(M:Mem)(op:COp)(x y:T):Option Bool:=match op with
 | .eq=>eqT M 4 x y
 | .ne=>(eqT M 4 x y).map (!·)
 | .inn=>inT M x y
 | .notin=>(inT M x y).map (!·)
 | .is=>match y.isV with|some .non=>some (match x.isV with|some .non=>true|_=>false)|some (.bl d)=>(match x.isV with|some (.bl c)=>some (c==d)|_=>none)|_=>none
 | .isnot=>match y.isV with|some .non=>some (match x.isV with|some .non=>false|_=>true)|some (.bl d)=>(match x.isV with|some (.bl c)=>some (!(c==d))|_=>none)|_=>none
 | .lt=>match x.isV,y.isV with|some (.int i),some (.int j)=>some (decide (i<j))|_,_=>none
 | .le=>match x.isV,y.isV with|some (.int i),some (.int j)=>some (decide (i<=j))|_,_=>none
 | .gt=>match x.isV,y.isV with|some (.int i),some (.int j)=>some (decide (j<i))|_,_=>none
 | .ge=>match x.isV,y.isV with|some (.int i),some (.int j)=>some (decide (j<=i))|_,_=>none
noncomputable def N1(as:List T)(f:T->Option TB):Option TB:=match as with
 | [a]=>f a
 |_=>none
theorem qm{as:List T}{f:T->Option TB}{r:TB}(e:N1 as f=some r):∃a,as=[a]/\f a=some r:=by
 unfold N1 at e;split at e
 ·exact⟨_,rfl,e⟩
 ·cases e
noncomputable def twoT(as:List T)(f:Int->Int->Option TB):Option TB:=match as with
 | [a,b]=>(match a with
  | .v (.int i)=>(match b with | .v (.int j)=>f i j|_=>none)
  |_=>none)
 |_=>none
theorem twoT_inv{as:List T}{f:Int->Int->Option TB}{r:TB}(e:twoT as f=some r):∃i j,as=[.v (.int i),.v (.int j)]/\f i j=some r:=by
 unfold twoT at e;split at e
 ·split at e
  ·split at e
   ·exact⟨_,_,rfl,e⟩
   ·cases e
  ·cases e
 ·cases e
noncomputable def QL(f:T->Option PySem.PyData):List T->Option (List PySem.PyData)
 | []=>some []
 |x::r=>(f x).bind λd=>(QL f r).map λds=>d::ds
noncomputable def F0(M:Mem):Nat->T->Option PySem.PyData
 | 0,t=>match t with | .v x=>n6 x|_=>none
 |n+1,t=>match t with
  | .v x=>n6 x
  | .tup ts=>(QL (F0 M n) ts).map .tuple
  | .lst ts=>(QL (F0 M n) ts).map .list
  | .fz ts=>(QL (F0 M n) ts).map .list
  | .cell k=>(M[k]?).bind λts=>(QL (F0 M n) ts).map .list
  | .ob (.dct [])=>some (.dict [])
  | .ob _=>none
noncomputable def Z8(M:Mem)(t:T):Option PySem.PyData:=F0 M 5 t
noncomputable def zb(M:Mem):BF->List T->Option TB
 | .len,as=>N1 as λa=>(a.its M).map λxs=>iT xs.length
 | .sum,as=>N1 as λa=>(a.lis M).bind λxs=>(jN xs).map λis=>iT is.sum
 | .all,as=>N1 as λa=>(a.lis M).bind λxs=>(zQ xs).map λbs=>bT (bs.all id)
 | .any,as=>N1 as λa=>(a.lis M).bind λxs=>(zQ xs).map λbs=>bT (bs.any id)
 | .max,as=>twoT as λi j=>some (iT (if j>i then j else i))
 | .min,as=>twoT as λi j=>some (iT (if j<i then j else i))
 | .list,as=>N1 as λa=>(a.its M).map lT
 | .tuple,as=>N1 as λa=>(match a with | .tup xs=>some (.tup xs,T.lfs xs)|a=>(a.lis M).map λxs=>(.tup xs,T.lfs xs))
 | .int,as=>N1 as λa=>(match a with | .v (.int i)=>some (iT i) | .v (.bl b)=>some (iT (if b then 1 else 0))|_=>none)
 | .maxl,as=>N1 as λa=>(a.lis M).bind λxs=>(qX xs).bind λis=>(qAL is).map iT
 | .bits,as=>N1 as λa=>(match a with | .v (.int i)=>some (iT ((PySem.Builtin.Int.intBits i:Nat):Int))|_=>none)
 | .repr,as=>N1 as λa=>((Z8 M a).bind L3).map λv=>(.v v,true)
 | .sorted,as=>N1 as λa=>(a.lis M).bind λxs=>(qX xs).bind λis=>if is.length<64 then some (.lst ((zo is).map λi=>.v (.int i)),true) else none
noncomputable def T.isC(n:Nat):T->Bool | .cell k=>decide (k=n)|_=>false
noncomputable def V8:Mt->Nat->List T->Mem->Option (TB×Mem)
 | .cnt,n,[.v y],M=>(M[n]?).bind λxs=>(zu xs).map λvs=>(iT (vs.countP λz=>_L.eqV z y:Nat),M)
 |_,_,_,_=>none
noncomputable def qh(M:Mem):T->Option String
 | .v .non=>some "NoneType"
 | .v (.bl _)=>some "bool"
 | .v (.int _)=>some "int"
 | .v (.str _)=>some "str"
 | .v _=>none
 | .tup _=>some "tuple"
 | .cell n=>(M[n]?).map λ_=>"list"
 | .ob (.dct _)=>some "dict"
 | .ob _=>none
 |_=>some "list"
noncomputable def T.tx:T->Option PySem.Str
 | .v (.str y)=>some y
 |_=>none
noncomputable def QH(M:Mem)(x y:T):Option TB:=match y with
 | .v (.int i)=>(x.its M).bind λxs=>(ixN xs.length i).bind λj=>(xs[j]?).map λt=>(t,t.lf)
 |_=>none
noncomputable def qC6:List Nat->List T->TS->Option TS
 | [],[],σ=>some σ
 |i::is,x::xs,σ=>qC6 is xs (σ.set i (some x))
 |_,_,_=>none
noncomputable def zV:Tg->T->TS->Option TS
 | .name i,t,σ=>some (σ.set i (some t))
 | .tup is,.tup ts,σ=>qC6 is ts σ
 | .tup _,_,_=>none
noncomputable def QB(src:List (Option Nat))(σ:TS):TS:=src.map λo=>match o with|none=>none|some j=>(σ[j]?).join
noncomputable def qx(lo:Int)(n:Nat):List T:=(List.range n).map λ(i:Nat)=>.v (.int (lo+(i:Int)))
noncomputable def ZD(lo:Int)(n:Nat):List T:=(List.range n).map λ(i:Nat)=>.v (.int (lo-(i:Int)))
noncomputable def Zw(M:Mem):T->Option (List T×ZH)
 | .lst ts=>some (ts,[])
 | .fz ts=>some (ts,[])
 | .tup ts=>some (ts,[])
 | .cell n=>(M[n]?).map λts=>(ts,[(n,ts)])
 |_=>none
noncomputable def T5(M:Mem):T->Option (List T×ZH)
 | .lst ts=>some (ts,[])
 | .fz ts=>some (ts,[])
 | .cell n=>(M[n]?).map λts=>(ts,[(n,ts)])
 |_=>none
noncomputable def Qt:Nat->List T->List T
 |_,[]=>[]
 |i,t::ts=>.tup [.v (.int (i:Int)),t]::Qt (i+1) ts
noncomputable def ql(d:ZH)(g:Tg)(c:TS->Mem->PR (Bool×Mem))(e:TS->Mem->PR (TB×Mem)):List T->List T->Bool->TS->Mem->PR (TB×Mem)
 | [],ys,f,_,M=>.ok ((.lst ys,f),M)
 |x::r,ys,f,σ,M=>match zV g x σ with
  |some σ1=>(c σ1 M).bind λ(b,M2)=>
   if b then (e σ1 M2).bind λ(y,M3)=>if ys.length<lim/\qk d M3=true then ql d g c e r (ys++[y.1]) (f&&y.2) σ1 M3 else .stuck
   else if qk d M2=true then ql d g c e r ys f σ1 M2 else .stuck
  |none=>.stuck
noncomputable def pB(r:PR (TB×Mem)):PR (Bool×Mem):=r.bind λ(x,M)=>match x.1 with | .v (.bl b)=>.ok (b,M)|_=>.stuck
section
variable (gl:List T)(P:Nat->List T->Mem->PR (TB×Mem))
mutual
noncomputable def pe:E->TS->Mem->PR (TB×Mem)
 | .var i=>λσ M=>match σ[i]? with|some (some t)=>.ok ((t,t.lf),M)|_=>.stuck
 | .cst v=>λ_ M=>if flat v then .ok ((.v v,true),M) else .stuck
 | .glob g=>λ_ M=>match gl[g]? with|some t=>.ok ((t,t.lf),M)|none=>.stuck
 | .bin op a b=>λσ M=>(pe a σ M).bind λ(x,M1)=>(pe b σ M1).bind λ(y,M2)=>(tJ (qc M2 op x.1 y.1)).bind λr=>.ok (r,M2)
 | .neg a=>λσ M=>(pe a σ M).bind λ(x,M1)=>match x.1 with | .v (.int i)=>.ok (iT (-i),M1)|_=>.stuck
 | .cmp op a b=>λσ M=>(pe a σ M).bind λ(x,M1)=>(pe b σ M1).bind λ(y,M2)=>(tJ (qu M2 op x.1 y.1)).bind λr=>.ok (bT r,M2)
 | .cmp2 o1 o2 a b c=>λσ M=>(pe a σ M).bind λ(x,M1)=>(pe b σ M1).bind λ(y,M2)=>(tJ (qu M2 o1 x.1 y.1)).bind λr=>
  if r then (pe c σ M2).bind λ(z,M3)=>(tJ (qu M3 o2 y.1 z.1)).bind λr=>.ok (bT r,M3) else .ok (bT false,M2)
 | .cmp3 o1 o2 o3 a b c d=>λσ M=>(pe a σ M).bind λ(x,M1)=>(pe b σ M1).bind λ(y,M2)=>(tJ (qu M2 o1 x.1 y.1)).bind λr=>
  if r then (pe c σ M2).bind λ(z,M3)=>(tJ (qu M3 o2 y.1 z.1)).bind λr=>(if r then (pe d σ M3).bind λ(w,M4)=>(tJ (qu M4 o3 z.1 w.1)).bind λr=>.ok (bT r,M4) else .ok (bT false,M3)) else .ok (bT false,M2)
 | .and a b=>λσ M=>(pB (pe a σ M)).bind λ(x,M1)=>if x then pe b σ M1 else .ok (bT false,M1)
 | .or a b=>λσ M=>(pB (pe a σ M)).bind λ(x,M1)=>if x then .ok (bT true,M1) else pe b σ M1
 | .not a=>λσ M=>(pB (pe a σ M)).bind λ(x,M1)=>.ok (bT (!x),M1)
 | .call f as=>λσ M=>(pes as σ M).bind λ(xs,M1)=>(P f (xs.map (·.1)) M1).nx
 | .blt f as=>λσ M=>(pes as σ M).bind λ(xs,M1)=>(tJ (zb M1 f (xs.map (·.1)))).bind λr=>.ok (r,M1)
 | .isi a ts=>λσ M=>(pe a σ M).bind λ(x,M1)=>(tJ (qh M1 x.1)).bind λt=>.ok (bT (ts.any (qW t)),M1)
 | .idx a b=>λσ M=>(pe a σ M).bind λ(x,M1)=>(pe b σ M1).bind λ(y,M2)=>(tJ (QH M2 x.1 y.1)).bind λr=>.ok (r,M2)
 | .rev a=>λσ M=>(pe a σ M).bind λ(x,M1)=>(tJ (x.1.lis M1)).bind λxs=>.ok (lT xs.reverse,M1)
 | .sl a lo hi=>λσ M=>(pe a σ M).bind λ(x,M1)=>(pes lo σ M1).bind λ(l,M2)=>(pes hi σ M2).bind λ(u,M3)=>
  (tJ (x.1.its M3)).bind λxs=>(tJ (qX (l.map (·.1)))).bind λl=>(tJ (qX (u.map (·.1)))).bind λu=>(tJ (Y1 x.1 xs l.head? u.head?)).bind λr=>.ok (r,M3)
 | .lst as=>λσ M=>(pes as σ M).bind λ(xs,M1)=>if xs.length<=lim then .ok ((.lst (xs.map (·.1)),xs.all (·.2)),M1) else .stuck
 | .tup as=>λσ M=>(pes as σ M).bind λ(xs,M1)=>if xs.length<=lim then .ok ((.tup (xs.map (·.1)),xs.all (·.2)),M1) else .stuck
 | .comp it src g c e=>λσ M=>(pei it σ M).bind λ(s,M1)=>ql s.2 g (pec c) (pe e) s.1 [] true (QB src σ) M1
 | .app a b=>λσ M=>(pe a σ M).bind λ(x,M1)=>match x.1 with
  | .cell n=>(pe b σ M1).bind λ(y,M2)=>match M2[n]? with
   |some xs=>if xs.length<lim then .ok ((.v .non,true),M2.set n (xs++[y.1])) else .stuck
   |none=>.stuck
  |_=>.stuck
 | .sset a=>λσ M=>(pe a σ M).bind λ(x,M1)=>match (x.1.lis M1).bind qX with|some is=>if is.length<64 then .ok ((.lst ((zo (uniq is)).map λi=>.v (.int i)),true),M1) else .stuck|none=>.stuck
 | .nset a=>λσ M=>(pe a σ M).bind λ(x,M1)=>match (x.1.lis M1).bind qX with|some is=>if is.length<1000 then .ok ((.v (.int ((Y8 is:Nat):Int)),true),M1) else .stuck|none=>.stuck
 | .lrng a=>λσ M=>(pe a σ M).bind λ(x,M1)=>match x.1 with | .v (.int j)=>if -1000000<=j/\j<=100000 then .ok ((.lst (qx 0 j.toNat),true),M1) else .stuck|_=>.stuck
 | .dnew=>λ_ M=>.ok ((.ob (.dct []),true),M)
 | .meth m a as=>λσ M=>(pe a σ M).bind λ(x,M1)=>match x.1 with
  | .cell n=>(pes as σ M1).bind λ(ys,M2)=>tJ (V8 m n (ys.map (·.1)) M2)
  |_=>.stuck
noncomputable def pes:Es->TS->Mem->PR (List TB×Mem)
 | .nil=>λ_ M=>.ok ([],M)
 | .cons a as=>λσ M=>(pe a σ M).bind λ(x,M1)=>(pes as σ M1).bind λ(xs,M2)=>.ok (x::xs,M2)
noncomputable def pec:Es->TS->Mem->PR (Bool×Mem)
 | .nil=>λ_ M=>.ok (true,M)
 | .cons a _=>λσ M=>pB (pe a σ M)
noncomputable def pei:Itr->TS->Mem->PR ((List T×ZH)×Mem)
 | .list a=>λσ M=>(pe a σ M).bind λ(x,M1)=>(tJ (Zw M1 x.1)).bind λs=>.ok (s,M1)
 | .rng1 a=>λσ M=>(pe a σ M).bind λ(x,M1)=>match x.1 with | .v (.int j)=>if -1000000<=j/\j<=1000000 then .ok ((qx 0 j.toNat,[]),M1) else .stuck|_=>.stuck
 | .rng2 a b=>λσ M=>(pe a σ M).bind λ(x,M1)=>(pe b σ M1).bind λ(y,M2)=>match x.1,y.1 with
  | .v (.int i),.v (.int j)=>if (-1000000<=i/\i<=1000000)/\-1000000<=j/\j<=1000000 then .ok ((qx i (j-i).toNat,[]),M2) else .stuck
  |_,_=>.stuck
 | .zip a b=>λσ M=>(pe a σ M).bind λ(x,M1)=>(pe b σ M1).bind λ(y,M2)=>(tJ (T5 M2 x.1)).bind λs=>(tJ (T5 M2 y.1)).bind λt=>
  .ok ((List.zipWith (λa b=>T.tup [a,b]) s.1 t.1,s.2++t.2),M2)
 | .enum a=>λσ M=>(pe a σ M).bind λ(x,M1)=>(tJ (T5 M1 x.1)).bind λs=>.ok ((Qt 0 s.1,s.2),M1)
 | .rng3 a b=>λσ M=>(pe a σ M).bind λ(x,M1)=>(pe b σ M1).bind λ(y,M2)=>match x.1,y.1 with
  | .v (.int i),.v (.int j)=>if (-1000000<=i/\i<=1000000)/\-1000000<=j/\j<=1000000 then .ok ((ZD i (i-j).toNat,[]),M2) else .stuck
  |_,_=>.stuck
end
inductive PO|nx(σ:TS)|rt(t:TB)|bk(σ:TS)|ct(σ:TS)
noncomputable abbrev RSt:=PR (PO×Mem)
noncomputable def jC(d:ZH)(g:Tg)(b:TS->Mem->RSt):List T->TS->Mem->RSt
 | [],σ,M=>.ok (.nx σ,M)
 |x::r,σ,M=>match zV g x σ with
  |some σ1=>(b σ1 M).bind λ(o,M2)=>match o with
   | .nx σ2=>if qk d M2=true then jC d g b r σ2 M2 else .stuck
   | .ct σ2=>if qk d M2=true then jC d g b r σ2 M2 else .stuck
   | .bk σ2=>.ok (.nx σ2,M2)
   | .rt t=>.ok (.rt t,M2)
  |none=>.stuck
noncomputable def jy(c:TS->Mem->PR (Bool×Mem))(b:TS->Mem->RSt):Nat->TS->Mem->RSt
 | 0,_,_=>.stuck
 |n+1,σ,M=>(c σ M).bind λ(t,M1)=>if t then (b σ M1).bind λ(o,M2)=>match o with
   | .nx σ2=>jy c b n σ2 M2
   | .ct σ2=>jy c b n σ2 M2
   | .bk σ2=>.ok (.nx σ2,M2)
   | .rt t=>.ok (.rt t,M2)
  else .ok (.nx σ,M1)
mutual
noncomputable def thaw(n:Nat):T->T×Mem
 | .lst ts=>let r:=Ja n ts;(.cell (n+r.2.length),r.2++[r.1])
 | .tup ts=>let r:=Ja n ts;(.tup r.1,r.2)
 |t=>(t,[])
noncomputable def Ja(n:Nat):List T->List T×Mem
 | []=>([],[])
 |t::ts=>let r:=thaw n t;let q:=Ja (n+r.2.length) ts;(r.1::q.1,r.2++q.2)
end
noncomputable def qCh:E->Bool
 | .bin .add _ _=>true
 | .lst _=>true
 |_=>false
variable (C:List Nat)
mutual
noncomputable def px:S->TS->Mem->RSt
 | .asg g e=>λσ M=>(pe gl P e σ M).bind λ(x,M1)=>match g with
  | .name i=>if C.contains i&&x.2 then .ok (.nx (σ.set i (some (thaw M1.length x.1).1)),M1++(thaw M1.length x.1).2) else if C.contains (i+1000)&&qCh e then (match x.1 with | .lst ts=>.ok (.nx (σ.set i (some (.cell M1.length))),M1++[ts])|_=>.stuck) else .ok (.nx (σ.set i (some x.1)),M1)
  |g=>match zV g x.1 σ with|some σ1=>.ok (.nx σ1,M1)|none=>.stuck
 | .put o i v=>λσ M=>(pe gl P v σ M).bind λ(x,M1)=>(pe gl P o σ M1).bind λ(p,M2)=>(pe gl P i σ M2).bind λ(k,M3)=>match p.1,k.1 with
  | .cell n,.v (.int k)=>match M3[n]? with
   |some xs=>match ixN xs.length k with|some j=>.ok (.nx σ,M3.set n (xs.set j x.1))|none=>.stuck
   |none=>.stuck
  |_,_=>.stuck
 | .expr e=>λσ M=>(pe gl P e σ M).bind λ(_,M1)=>.ok (.nx σ,M1)
 | .ret e=>λσ M=>(pe gl P e σ M).bind λ(x,M1)=>.ok (.rt x,M1)
 | .ifs c t u=>λσ M=>(pB (pe gl P c σ M)).bind λ(x,M1)=>if x then pxs t σ M1 else pxs u σ M1
 | .for_ g it b=>λσ M=>(pei gl P it σ M).bind λ(s,M1)=>jC s.2 g (pxs b) s.1 σ M1
 | .while_ c b=>λσ M=>jy (λσ M=>pB (pe gl P c σ M)) (pxs b) qB4 σ M
 | .stop=>λ_ _=>.stuck
noncomputable def pxs:Ss->TS->Mem->RSt
 | .nil=>λσ M=>.ok (.nx σ,M)
 | .cons s r=>λσ M=>(px s σ M).bind λ(o,M1)=>match o with
  | .nx σ1=>pxs r σ1 M1
  |o=>.ok (o,M1)
end
end
noncomputable def qY(M:Mem)(n0:Nat):Nat->T->Option T
 | 0,t=>if t.und n0 then some t else none
 |d+1,t=>if t.und n0 then some t else match t with
  | .lst ts=>(ts.mapM (qY M n0 d)).map .lst
  | .tup ts=>(ts.mapM (qY M n0 d)).map .tup
  | .cell n=>(M[n]?).bind λts=>(ts.mapM (qY M n0 d)).map .lst
  |_=>none
noncomputable def Qd(M:Mem)(n0:Nat):Nat->T->Option (List Nat)
 | 0,t=>if t.lf then some [] else none
 |d+1,t=>if t.lf then some [] else match t with
  | .tup ts=>(ts.mapM (Qd M n0 d)).map List.flatten
  | .cell n=>if n0<=n then (M[n]?).bind λts=>(ts.mapM (Qd M n0 d)).map λl=>l.flatten++[n] else none
  |_=>none
noncomputable def frR(M:Mem)(n0:Nat)(t:T):Bool:=match Qd M n0 6 t with|some l=>decide l.Nodup|none=>false
noncomputable def QA(n0:Nat)(x:TB)(M:Mem):PR (TB×Mem):=
 if M.length=n0 then .ok (x,M) else if (M.take n0).all (T.unds n0) then (tJ (qY M n0 6 x.1)).bind λt=>.ok ((t,x.2||frR M n0 x.1),M.take n0) else .stuck
noncomputable def V7(n0:Nat):RSt->PR (TB×Mem)
 | .ok (.nx _,M1)=>QA n0 (.v .non,true) M1
 | .ok (.rt t,M1)=>QA n0 t M1
 | .ok (_,_)=>.stuck
 | .exc c M1=>if M1.length=n0 then .exc c M1 else if (M1.take n0).all (T.unds n0) then .exc c (M1.take n0) else .stuck
 | .stuck=>.stuck
noncomputable def Pk(gl:List T)(tb:List Fn)(Cs:List (List Nat)):Nat->Nat->List T->Mem->PR (TB×Mem)
 | 0,_,_,_=>.stuck
 |k+1,f,vs,M=>match tb[f]? with
  |some d=>if vs.length=d.npar/\d.npar<=d.nslot then V7 M.length (pxs gl (Pk gl tb Cs k) (Cs.getD f []) d.body (vs.map some++List.replicate (d.nslot-d.npar) none) M)
   else .stuck
  |none=>.stuck
def jk{α β:Type}(R:α->β->Prop):List α->List β->Prop
 | [],vs=>vs=[]
 |t::ts,vs=>∃v vs',vs=v::vs'/\R t v/\jk R ts vs'
section
variable{α β:Type}{R:α->β->Prop}
theorem qE:∀{xs:List α}{ys:List β},jk R xs ys->xs.length=ys.length
 | [],_,h=>by cases h;rfl
 |x::xs,_,⟨v,vs,rfl,_,h⟩=>by simp[qE h]
theorem zJ:∀{xs:List α}{ys:List β}{i:Nat}{x:α},jk R xs ys->xs[i]?=some x->∃y,ys[i]?=some y/\R x y
 | [],_,i,x,h,e=>by simp at e
 |x::xs,_,0,x',⟨v,vs,rfl,r,h⟩,e=>⟨v,rfl,by simp at e;subst e;exact r⟩
 |x::xs,_,i+1,x',⟨v,vs,rfl,r,h⟩,e=>by
  obtain⟨y,e1,r1⟩:=zJ (i:=i) h (by simpa using e);exact⟨y,by simpa using e1,r1⟩
theorem zU:∀{xs:List α}{ys:List β}{xs':List α}{ys':List β},jk R xs ys->jk R xs' ys'->jk R (xs++xs') (ys++ys')
 | [],_,_,_,h,k=>by cases h;exact k
 |x::xs,_,_,_,⟨v,vs,rfl,r,h⟩,k=>⟨v,vs++_,rfl,r,zU h k⟩
theorem jg:∀(n:Nat){xs:List α}{ys:List β},jk R xs ys->jk R (xs.take n) (ys.take n)
 | 0,_,_,_=>by simp[jk]
 |n+1,[],_,h=>by cases h;simp[jk]
 |n+1,x::xs,_,⟨v,vs,rfl,r,h⟩=>⟨v,vs.take n,rfl,r,jg n h⟩
theorem JP:∀(n:Nat){xs:List α}{ys:List β},jk R xs ys->jk R (xs.drop n) (ys.drop n)
 | 0,_,_,h=>h
 |n+1,[],_,h=>by cases h;simp[jk]
 |n+1,x::xs,_,⟨v,vs,rfl,r,h⟩=>JP n h
theorem zy:∀{xs:List α}{ys:List β}(j:Nat){x:α}{y:β},jk R xs ys->R x y->jk R (xs.set j x) (ys.set j y)
 | [],_,j,_,_,h,r=>by cases h;simp[jk]
 |x::xs,_,0,_,_,⟨v,vs,rfl,r0,h⟩,r=>⟨_,vs,rfl,r,h⟩
 |x::xs,_,j+1,_,_,⟨v,vs,rfl,r0,h⟩,r=>⟨v,vs.set j _,rfl,r0,zy j h r⟩
theorem c8(n:Nat){xs:List α}{ys:List β}(h:jk R xs ys):jk R (List.replicate n xs).flatten (List.replicate n ys).flatten:=by
 induction n with
 |zero=>simp[jk]
 |succ n ih=>simp only[List.replicate_succ,List.flatten_cons];exact zU h ih
theorem Jc{S:α->β->Prop}(f:∀x y,R x y->S x y):∀{xs:List α}{ys:List β},jk R xs ys->jk S xs ys
 | [],_,h=>h
 |x::xs,_,⟨v,vs,rfl,r,h⟩=>⟨v,vs,rfl,f _ _ r,Jc f h⟩
end
mutual
def Rep(A X:List Nat)(h:AH):T->V->Prop
 | .v x,w=>w=x/\flat x=true
 | .cell n,w=>∃a:Nat,A[n]?=some a/\w=.ref a
 | .fz ts,w=>∃a vs,w=.ref a/\a∉X/\h[a]?=some (.lst true vs)/\qL A X h ts vs
 | .lst ts,w=>∃a vs,w=.ref a/\a∉X/\h[a]?=some (.lst false vs)/\qL A X h ts vs
 | .tup ts,w=>∃a vs,w=.ref a/\a∉X/\h[a]?=some (.tup vs)/\qL A X h ts vs
 | .ob o,w=>∃a,w=.ref a/\a∉X/\h[a]?=some (.ob o)
def qL(A X:List Nat)(h:AH):List T->List V->Prop
 | [],vs=>vs=[]
 |t::ts,vs=>∃v vs',vs=v::vs'/\Rep A X h t v/\qL A X h ts vs'
end
theorem reps_iff{A X:List Nat}{h:AH}:∀{ts:List T}{vs:List V},qL A X h ts vs↔jk (Rep A X h) ts vs
 | [],vs=>by unfold qL jk;rfl
 |t::ts,vs=>by
  unfold qL jk;constructor
  ·rintro⟨v,vs',e,r,k⟩;exact⟨v,vs',e,r,reps_iff.mp k⟩
  ·rintro⟨v,vs',e,r,k⟩;exact⟨v,vs',e,r,reps_iff.mpr k⟩
mutual
def FP(X:List Nat)(h:AH):T->V->List Nat->Prop
 | .v x,w,fp=>(w=x/\flat x=true)/\fp=[]
 | .lst ts,w,fp=>∃a vs f,w=.ref a/\a∉X/\h[a]?=some (.lst false vs)/\FPs X h ts vs f/\fp=f++[a]
 | .tup ts,w,fp=>∃a vs,w=.ref a/\a∉X/\h[a]?=some (.tup vs)/\FPs X h ts vs fp
 | .ob o,w,fp=>(∃a,w=.ref a/\a∉X/\h[a]?=some (.ob o))/\fp=[]
 | .fz _,_,_=>False
 | .cell _,_,_=>False
def FPs(X:List Nat)(h:AH):List T->List V->List Nat->Prop
 | [],vs,fp=>vs=[]/\fp=[]
 |t::ts,vs,fp=>∃v vs' f1 f2,vs=v::vs'/\FP X h t v f1/\FPs X h ts vs' f2/\fp=f1++f2
end
mutual
theorem zO{A X A' X':List Nat}{h h':AH}(hc:∀(n:Nat) a,A[n]?=some a->A'[n]?=some a)(hn:∀a o,a∉X->h[a]?=some o->a∉X'/\h'[a]?=some o):∀(t:T){w:V},Rep A X h t w->Rep A' X' h' t w
 | .v x,w,r=>by unfold Rep at r ⊢;exact r
 | .cell n,w,r=>by unfold Rep at r ⊢;obtain⟨a,e,q⟩:=r;exact⟨a,hc _ _ e,q⟩
 | .fz ts,w,r=>by unfold Rep at r ⊢;obtain⟨a,vs,e,q1,q2,q3⟩:=r;exact⟨a,vs,e,(hn _ _ q1 q2).1,(hn _ _ q1 q2).2,qO hc hn ts q3⟩
 | .lst ts,w,r=>by unfold Rep at r ⊢;obtain⟨a,vs,e,q1,q2,q3⟩:=r;exact⟨a,vs,e,(hn _ _ q1 q2).1,(hn _ _ q1 q2).2,qO hc hn ts q3⟩
 | .tup ts,w,r=>by unfold Rep at r ⊢;obtain⟨a,vs,e,q1,q2,q3⟩:=r;exact⟨a,vs,e,(hn _ _ q1 q2).1,(hn _ _ q1 q2).2,qO hc hn ts q3⟩
 | .ob o,w,r=>by unfold Rep at r ⊢;obtain⟨a,e,q1,q2⟩:=r;exact⟨a,e,(hn _ _ q1 q2).1,(hn _ _ q1 q2).2⟩
theorem qO{A X A' X':List Nat}{h h':AH}(hc:∀(n:Nat) a,A[n]?=some a->A'[n]?=some a)(hn:∀a o,a∉X->h[a]?=some o->a∉X'/\h'[a]?=some o):∀(ts:List T){ws:List V},qL A X h ts ws->qL A' X' h' ts ws
 | [],w,r=>by unfold qL at r ⊢;exact r
 |t::ts,w,r=>by unfold qL at r ⊢;obtain⟨v,vs,e,q1,q2⟩:=r;exact⟨v,vs,e,zO hc hn t q1,qO hc hn ts q2⟩
end
mutual
theorem ZO{X X':List Nat}{h h':AH}(hn:∀a o,a∉X->h[a]?=some o->a∉X'/\h'[a]?=some o):∀(t:T){w:V}{fp:List Nat},FP X h t w fp->FP X' h' t w fp
 | .v x,w,_,r=>by unfold FP at r ⊢;exact r
 | .cell n,w,_,r=>by unfold FP at r;exact r.elim
 | .fz ts,w,_,r=>by unfold FP at r;exact r.elim
 | .lst ts,w,_,r=>by unfold FP at r ⊢;obtain⟨a,vs,f,e,q1,q2,q3,q4⟩:=r;exact⟨a,vs,f,e,(hn _ _ q1 q2).1,(hn _ _ q1 q2).2,ze hn ts q3,q4⟩
 | .tup ts,w,_,r=>by unfold FP at r ⊢;obtain⟨a,vs,e,q1,q2,q3⟩:=r;exact⟨a,vs,e,(hn _ _ q1 q2).1,(hn _ _ q1 q2).2,ze hn ts q3⟩
 | .ob o,w,_,r=>by unfold FP at r ⊢;obtain⟨⟨a,e,q1,q2⟩,q3⟩:=r;exact⟨⟨a,e,(hn _ _ q1 q2).1,(hn _ _ q1 q2).2⟩,q3⟩
theorem ze{X X':List Nat}{h h':AH}(hn:∀a o,a∉X->h[a]?=some o->a∉X'/\h'[a]?=some o):∀(ts:List T){ws:List V}{fp:List Nat},FPs X h ts ws fp->FPs X' h' ts ws fp
 | [],w,_,r=>by unfold FPs at r ⊢;exact r
 |t::ts,w,_,r=>by unfold FPs at r ⊢;obtain⟨v,vs,f1,f2,e,q1,q2,q3⟩:=r;exact⟨v,vs,f1,f2,e,ZO hn t q1,ze hn ts q2,q3⟩
end
mutual
theorem qCD{A X:List Nat}{h:AH}:∀(t:T){w:V}{fp:List Nat},FP X h t w fp->Rep A X h t w
 | .v x,w,_,r=>by unfold FP at r;unfold Rep;exact r.1
 | .cell n,w,_,r=>by unfold FP at r;exact r.elim
 | .fz ts,w,_,r=>by unfold FP at r;exact r.elim
 | .lst ts,w,_,r=>by unfold FP at r;unfold Rep;obtain⟨a,vs,f,e,q1,q2,q3,q4⟩:=r;exact⟨a,vs,e,q1,q2,B6 ts q3⟩
 | .tup ts,w,_,r=>by unfold FP at r;unfold Rep;obtain⟨a,vs,e,q1,q2,q3⟩:=r;exact⟨a,vs,e,q1,q2,B6 ts q3⟩
 | .ob o,w,_,r=>by unfold FP at r;unfold Rep;exact r.1
theorem B6{A X:List Nat}{h:AH}:∀(ts:List T){ws:List V}{fp:List Nat},FPs X h ts ws fp->qL A X h ts ws
 | [],w,_,r=>by unfold FPs at r;unfold qL;exact r.1
 |t::ts,w,_,r=>by unfold FPs at r;unfold qL;obtain⟨v,vs,f1,f2,e,q1,q2,q3⟩:=r;exact⟨v,vs,e,qCD t q1,B6 ts q2⟩
end
mutual
theorem w4{X:List Nat}{h:AH}(n:Nat):∀(t:T){w:V}{fp:List Nat},FP X h t w fp->t.und n=true
 | .v x,w,_,r=>rfl
 | .cell n,w,_,r=>by unfold FP at r;exact r.elim
 | .fz ts,w,_,r=>by unfold FP at r;exact r.elim
 | .lst ts,w,_,r=>by unfold FP at r;obtain⟨a,vs,f,e,q1,q2,q3,q4⟩:=r;exact Jr n ts q3
 | .tup ts,w,_,r=>by unfold FP at r;obtain⟨a,vs,e,q1,q2,q3⟩:=r;exact Jr n ts q3
 | .ob o,w,_,r=>rfl
theorem Jr{X:List Nat}{h:AH}(n:Nat):∀(ts:List T){ws:List V}{fp:List Nat},FPs X h ts ws fp->T.unds n ts=true
 | [],w,_,r=>rfl
 |t::ts,w,_,r=>by unfold FPs at r;obtain⟨v,vs,f1,f2,e,q1,q2,q3⟩:=r;unfold T.unds;rw[w4 n t q1,Jr n ts q2];rfl
end
mutual
theorem C9{X:List Nat}{h:AH}:∀(t:T){w:V}{fp:List Nat},FP X h t w fp->∀a∈fp,a∉X/\∃vs,h[a]?=some (.lst false vs)
 | .v x,w,_,r=>by unfold FP at r;obtain⟨_,rfl⟩:=r;intro a ha;simp at ha
 | .cell n,w,_,r=>by unfold FP at r;exact r.elim
 | .fz ts,w,_,r=>by unfold FP at r;exact r.elim
 | .lst ts,w,_,r=>by
  unfold FP at r;obtain⟨a,vs,f,e,q1,q2,q3,rfl⟩:=r;intro b hb;rcases wJ.mp hb with hb|hb
  ·exact jt ts q3 b hb
  ·simp at hb;subst hb;exact⟨q1,vs,q2⟩
 | .tup ts,w,_,r=>by unfold FP at r;obtain⟨a,vs,e,q1,q2,q3⟩:=r;exact jt ts q3
 | .ob o,w,_,r=>by unfold FP at r;obtain⟨_,rfl⟩:=r;intro a ha;simp at ha
theorem jt{X:List Nat}{h:AH}:∀(ts:List T){ws:List V}{fp:List Nat},FPs X h ts ws fp->∀a∈fp,a∉X/\∃vs,h[a]?=some (.lst false vs)
 | [],w,_,r=>by unfold FPs at r;obtain⟨_,rfl⟩:=r;intro a ha;simp at ha
 |t::ts,w,_,r=>by
  unfold FPs at r;obtain⟨v,vs,f1,f2,e,q1,q2,rfl⟩:=r;intro b hb;rcases wJ.mp hb with hb|hb
  ·exact C9 t q1 b hb
  ·exact jt ts q2 b hb
end
mutual
theorem qAs{A X:List Nat}{h:AH}:∀(t:T){w:V},Rep A X h t w->t.lf=true->FP X h t w []
 | .v x,w,r,l=>by unfold Rep at r;unfold FP;exact⟨r,rfl⟩
 | .cell n,w,r,l=>by unfold T.lf at l;cases l
 | .fz ts,w,r,l=>by unfold T.lf at l;cases l
 | .lst ts,w,r,l=>by unfold T.lf at l;cases l
 | .tup ts,w,r,l=>by unfold Rep at r;unfold FP;obtain⟨a,vs,e,q1,q2,q3⟩:=r;exact⟨a,vs,e,q1,q2,V9 ts q3 (by unfold T.lf at l;exact l)⟩
 | .ob o,w,r,l=>by unfold Rep at r;unfold FP;exact⟨r,rfl⟩
theorem V9{A X:List Nat}{h:AH}:∀(ts:List T){ws:List V},qL A X h ts ws->T.lfs ts=true->FPs X h ts ws []
 | [],w,r,l=>by unfold qL at r;unfold FPs;exact⟨r,rfl⟩
 |t::ts,w,r,l=>by
  unfold qL at r;unfold FPs;obtain⟨v,vs,e,q1,q2⟩:=r;unfold T.lfs at l;simp only[wB]at l;exact⟨v,vs,[],[],e,qAs t q1 l.1,V9 ts q2 l.2,rfl⟩
end
mutual
theorem S3{A X A1 X1:List Nat}{h:AH}{n0:Nat}(hc:∀n,n<n0->A1[n]?=A[n]?)(hX:∀a∈X,a∈X1):∀(t:T){w:V},Rep A1 X1 h t w->t.und n0=true->Rep A X h t w
 | .v x,w,r,u=>by unfold Rep at r ⊢;exact r
 | .cell n,w,r,u=>by
  unfold Rep at r ⊢;obtain⟨a,e,q⟩:=r;unfold T.und at u;exact⟨a,(hc n (by simpa using u)).symm.trans e,q⟩
 | .fz ts,w,r,u=>by unfold Rep at r ⊢;obtain⟨a,vs,e,q1,q2,q3⟩:=r;exact⟨a,vs,e,λz=>q1 (hX _ z),q2,jf hc hX ts q3 (by unfold T.und at u;exact u)⟩
 | .lst ts,w,r,u=>by unfold Rep at r ⊢;obtain⟨a,vs,e,q1,q2,q3⟩:=r;exact⟨a,vs,e,λz=>q1 (hX _ z),q2,jf hc hX ts q3 (by unfold T.und at u;exact u)⟩
 | .tup ts,w,r,u=>by unfold Rep at r ⊢;obtain⟨a,vs,e,q1,q2,q3⟩:=r;exact⟨a,vs,e,λz=>q1 (hX _ z),q2,jf hc hX ts q3 (by unfold T.und at u;exact u)⟩
 | .ob o,w,r,u=>by unfold Rep at r ⊢;obtain⟨a,e,q1,q2⟩:=r;exact⟨a,e,λz=>q1 (hX _ z),q2⟩
theorem jf{A X A1 X1:List Nat}{h:AH}{n0:Nat}(hc:∀n,n<n0->A1[n]?=A[n]?)(hX:∀a∈X,a∈X1):∀(ts:List T){ws:List V},qL A1 X1 h ts ws->T.unds n0 ts=true->qL A X h ts ws
 | [],w,r,u=>by unfold qL at r ⊢;exact r
 |t::ts,w,r,u=>by
  unfold qL at r ⊢;obtain⟨v,vs,e,q1,q2⟩:=r;unfold T.unds at u;simp only[wB]at u;exact⟨v,vs,e,S3 hc hX t q1 u.1,jf hc hX ts q2 u.2⟩
end
theorem jB{x:V}{a:Nat}(h:flat x=true)(e:V.ref a=x):False:=by subst e;cases h
mutual
theorem O9{A X:List Nat}{h:AH}(nd:A.Nodup)(hs:∀a∈A,a∈X):∀(s t:T){w:V},Rep A X h s w->Rep A X h t w->s=t
 | .v x,t,w,r,q=>by
  unfold Rep at r;obtain⟨rfl,f⟩:=r;cases t with
  |v y=>unfold Rep at q;obtain⟨rfl,_⟩:=q;rfl
  |cell n=>unfold Rep at q;obtain⟨a,_,e⟩:=q;subst e;cases f
  |fz ts=>unfold Rep at q;obtain⟨a,vs,e,_⟩:=q;subst e;cases f
  |lst ts=>unfold Rep at q;obtain⟨a,vs,e,_⟩:=q;subst e;cases f
  |tup ts=>unfold Rep at q;obtain⟨a,vs,e,_⟩:=q;subst e;cases f
  |ob o=>unfold Rep at q;obtain⟨a,e,_⟩:=q;subst e;cases f
 | .cell n,t,w,r,q=>by
  unfold Rep at r;obtain⟨a,ea,rfl⟩:=r;have am:a∈X:=hs _ (wW ea);cases t with
  |v y=>unfold Rep at q;obtain⟨e,f⟩:=q;exact(jB f e).elim
  |cell m=>
   unfold Rep at q;obtain⟨b,eb,e⟩:=q;cases e;have:n=m:=(List.getElem?_inj (by exact(wC.mp ea).1) nd).mp (ea.trans eb.symm);rw[this]
  |fz ts=>unfold Rep at q;obtain⟨b,vs,e,k,_⟩:=q;cases e;exact(k am).elim
  |lst ts=>unfold Rep at q;obtain⟨b,vs,e,k,_⟩:=q;cases e;exact(k am).elim
  |tup ts=>unfold Rep at q;obtain⟨b,vs,e,k,_⟩:=q;cases e;exact(k am).elim
  |ob o=>unfold Rep at q;obtain⟨b,e,k,_⟩:=q;cases e;exact(k am).elim
 | .fz ss,t,w,r,q=>by
  unfold Rep at r;obtain⟨a,vs,rfl,k1,k2,k3⟩:=r;cases t with
  |v y=>unfold Rep at q;obtain⟨e,f⟩:=q;exact(jB f e).elim
  |cell m=>unfold Rep at q;obtain⟨b,eb,e⟩:=q;cases e;exact(k1 (hs _ (wW eb))).elim
  |fz ts=>unfold Rep at q;obtain⟨b,vs',e,z1,z2,z3⟩:=q;cases e;rw[k2]at z2;cases z2;rw[QR nd hs ss ts k3 z3]
  |lst ts=>unfold Rep at q;obtain⟨b,vs',e,z1,z2,z3⟩:=q;cases e;rw[k2]at z2;cases z2
  |tup ts=>unfold Rep at q;obtain⟨b,vs',e,z1,z2,z3⟩:=q;cases e;rw[k2]at z2;cases z2
  |ob o=>unfold Rep at q;obtain⟨b,e,z1,z2⟩:=q;cases e;rw[k2]at z2;cases z2
 | .lst ss,t,w,r,q=>by
  unfold Rep at r;obtain⟨a,vs,rfl,k1,k2,k3⟩:=r;cases t with
  |v y=>unfold Rep at q;obtain⟨e,f⟩:=q;exact(jB f e).elim
  |cell m=>unfold Rep at q;obtain⟨b,eb,e⟩:=q;cases e;exact(k1 (hs _ (wW eb))).elim
  |lst ts=>unfold Rep at q;obtain⟨b,vs',e,z1,z2,z3⟩:=q;cases e;rw[k2]at z2;cases z2;rw[QR nd hs ss ts k3 z3]
  |fz ts=>unfold Rep at q;obtain⟨b,vs',e,z1,z2,z3⟩:=q;cases e;rw[k2]at z2;cases z2
  |tup ts=>unfold Rep at q;obtain⟨b,vs',e,z1,z2,z3⟩:=q;cases e;rw[k2]at z2;cases z2
  |ob o=>unfold Rep at q;obtain⟨b,e,z1,z2⟩:=q;cases e;rw[k2]at z2;cases z2
 | .tup ss,t,w,r,q=>by
  unfold Rep at r;obtain⟨a,vs,rfl,k1,k2,k3⟩:=r;cases t with
  |v y=>unfold Rep at q;obtain⟨e,f⟩:=q;exact(jB f e).elim
  |cell m=>unfold Rep at q;obtain⟨b,eb,e⟩:=q;cases e;exact(k1 (hs _ (wW eb))).elim
  |tup ts=>unfold Rep at q;obtain⟨b,vs',e,z1,z2,z3⟩:=q;cases e;rw[k2]at z2;cases z2;rw[QR nd hs ss ts k3 z3]
  |fz ts=>unfold Rep at q;obtain⟨b,vs',e,z1,z2,z3⟩:=q;cases e;rw[k2]at z2;cases z2
  |lst ts=>unfold Rep at q;obtain⟨b,vs',e,z1,z2,z3⟩:=q;cases e;rw[k2]at z2;cases z2
  |ob o=>unfold Rep at q;obtain⟨b,e,z1,z2⟩:=q;cases e;rw[k2]at z2;cases z2
 | .ob o,t,w,r,q=>by
  unfold Rep at r;obtain⟨a,rfl,k1,k2⟩:=r;cases t with
  |v y=>unfold Rep at q;obtain⟨e,f⟩:=q;exact(jB f e).elim
  |cell m=>unfold Rep at q;obtain⟨b,eb,e⟩:=q;cases e;exact(k1 (hs _ (wW eb))).elim
  |fz ts=>unfold Rep at q;obtain⟨b,vs',e,z1,z2,z3⟩:=q;cases e;rw[k2]at z2;cases z2
  |lst ts=>unfold Rep at q;obtain⟨b,vs',e,z1,z2,z3⟩:=q;cases e;rw[k2]at z2;cases z2
  |tup ts=>unfold Rep at q;obtain⟨b,vs',e,z1,z2,z3⟩:=q;cases e;rw[k2]at z2;cases z2
  |ob o'=>unfold Rep at q;obtain⟨b,e,z1,z2⟩:=q;cases e;rw[k2]at z2;cases z2;rfl
theorem QR{A X:List Nat}{h:AH}(nd:A.Nodup)(hs:∀a∈A,a∈X):∀(ss ts:List T){ws:List V},qL A X h ss ws->qL A X h ts ws->ss=ts
 | [],[],w,r,q=>rfl
 | [],t::ts,w,r,q=>by unfold qL at r q;obtain⟨v,vs,e,_⟩:=q;subst r;cases e
 |s::ss,[],w,r,q=>by unfold qL at r q;obtain⟨v,vs,e,_⟩:=r;subst q;cases e
 |s::ss,t::ts,w,r,q=>by
  unfold qL at r q;obtain⟨v,vs,rfl,k1,k2⟩:=r;obtain⟨v',vs',e,z1,z2⟩:=q;cases e;rw[O9 nd hs s t k1 z1,QR nd hs ss ts k2 z2]
end
mutual
theorem qCO:∀(s t:T),T.beq s t=true->s=t
 | .v x,.v y,h=>by unfold T.beq at h;simp at h;rw[h]
 | .cell x,.cell y,h=>by unfold T.beq at h;simp at h;rw[h]
 | .fz x,.fz y,h=>by unfold T.beq at h;rw[jr x y h]
 | .lst x,.lst y,h=>by unfold T.beq at h;rw[jr x y h]
 | .tup x,.tup y,h=>by unfold T.beq at h;rw[jr x y h]
 | .ob x,.ob y,h=>by unfold T.beq at h;simp at h;rw[h]
 | .ob _,.v _,h | .ob _,.cell _,h | .ob _,.fz _,h | .ob _,.lst _,h | .ob _,.tup _,h=>by simp[T.beq]at h
 | .v _,.ob _,h | .cell _,.ob _,h | .fz _,.ob _,h | .lst _,.ob _,h | .tup _,.ob _,h=>by simp[T.beq]at h
 | .v _,.cell _,h | .v _,.fz _,h | .v _,.lst _,h | .v _,.tup _,h=>by simp[T.beq]at h
 | .cell _,.v _,h | .cell _,.fz _,h | .cell _,.lst _,h | .cell _,.tup _,h=>by simp[T.beq]at h
 | .fz _,.v _,h | .fz _,.cell _,h | .fz _,.lst _,h | .fz _,.tup _,h=>by simp[T.beq]at h
 | .lst _,.v _,h | .lst _,.cell _,h | .lst _,.fz _,h | .lst _,.tup _,h=>by simp[T.beq]at h
 | .tup _,.v _,h | .tup _,.cell _,h | .tup _,.fz _,h | .tup _,.lst _,h=>by simp[T.beq]at h
theorem jr:∀(ss ts:List T),T.beqs ss ts=true->ss=ts
 | [],[],h=>rfl
 | [],_::_,h=>by simp[T.beqs]at h
 |_::_,[],h=>by simp[T.beqs]at h
 |s::ss,t::ts,h=>by unfold T.beqs at h;simp only[wB]at h;rw[qCO s t h.1,jr ss ts h.2]
end
def Frm(A:List Nat)(h h':AH):Prop:=h.length<=h'.length/\∀j,j<h.length->j∉A->h'[j]?=h[j]?
theorem Frm.refl(A:List Nat)(h:AH):Frm A h h:=⟨wF _,λ_ _ _=>rfl⟩
theorem Frm.trans{A:List Nat}{a b c:AH}(x:Frm A a b)(y:Frm A b c):Frm A a c:=⟨wM x.1 y.1,λj hj hA=>(y.2 j (wK hj x.1) hA).trans (x.2 j hj hA)⟩
theorem Frm.trans2{A B:List Nat}{a b c:AH}(x:Frm A a b)(hB:∀k∈B,a.length<=k)(y:Frm (A++B) b c):Frm A a c:=
 ⟨wM x.1 y.1,λj hj hA=>(y.2 j (wK hj x.1) (by rw[wJ];rintro(z|z);exact hA z;have:=hB _ z;omega)).trans (x.2 j hj hA)⟩
theorem Frm.app(A:List Nat)(h e:AH):Frm A h (h++e):=⟨by simp,λj hj _=>by rw[wD hj]⟩
theorem Frm.set{A:List Nat}{h h':AH}(f:Frm A h h'){a:Nat}(ha:a∈A\/h.length<=a)(o:O):Frm A h (h'.set a o):=⟨by simpa using f.1,λj hj hA=>by
 rw[wa (by rintro rfl;rcases ha with z|z;exact hA z;omega)];exact f.2 j hj hA⟩
theorem qM{h:AH}{a:Nat}{o:O}(e:h[a]?=some o):a<h.length:=(wC.mp e).1
structure RelM(gl:List T)(A X:List Nat)(h:AH)(M:Mem):Prop where
 len:A.length=M.length
 nd:A.Nodup
 sub:∀a∈A,a∈X
 lt:∀a∈X,a<h.length
 at_:∀(n:Nat) a,A[n]?=some a->∃ts vs,M[n]?=some ts/\h[a]?=some (.lst false vs)/\qL A X h ts vs
 glo:∀(g:Nat) t,gl[g]?=some t->Rep A X h t (.ref g)
section
variable{gl:List T}{A X:List Nat}{h h':AH}{M:Mem}
theorem RelM.keepN(R:RelM gl A X h M)(f:Frm A h h'):∀a o,a∉X->h[a]?=some o->a∉X/\h'[a]?=some o:=λa o hx e=>⟨hx,(f.2 a (qM e) λz=>hx (R.sub _ z)).trans e⟩
theorem RelM.keep(R:RelM gl A X h M)(f:Frm A h h'){t:T}{w:V}(r:Rep A X h t w):Rep A X h' t w:=zO (λ_ _ e=>e) (R.keepN f) t r
theorem RelM.keeps(R:RelM gl A X h M)(f:Frm A h h'){t:List T}{w:List V}(r:qL A X h t w):qL A X h' t w:=qO (λ_ _ e=>e) (R.keepN f) t r
theorem RelM.up(R:RelM gl A X h M)(e:AH):RelM gl A X (h++e) M:=by
 have f:Frm A h (h++e):=Frm.app A h e;refine⟨R.len,R.nd,R.sub,λa ha=>wK (R.lt a ha) f.1,λn a ea=>?_,λg t eg=>R.keep f (R.glo g t eg)⟩;obtain⟨ts,vs,e1,e2,e3⟩:=R.at_ n a ea;exact⟨ts,vs,e1,by rw[wD (qM e2)];exact e2,R.keeps f e3⟩
theorem RelM.put(R:RelM gl A X h M){n a:Nat}(ea:A[n]?=some a){ts:List T}{vs:List V}(r:qL A X h ts vs):RelM gl A X (h.set a (.lst false vs)) (M.set n ts)/\Frm A h (h.set a (.lst false vs)):=by
 have am:a∈A:=wW ea;have f:Frm A h (h.set a (.lst false vs)):=(Frm.refl A h).set (.inl am) _;have al:a<h.length:=R.lt a (R.sub a am);refine⟨⟨by simpa using R.len,R.nd,R.sub,λb hb=>by simpa using R.lt b hb,λm b eb=>?_,λg t eg=>R.keep f (R.glo g t eg)⟩,f⟩;by_cases hm:n=m
 ·subst hm;rw[ea]at eb;cases eb;have nl:n<M.length:=by rw[<-R.len];exact(wC.mp ea).1
  exact⟨ts,vs,by rw[wj nl],by rw[wj al],R.keeps f r⟩
 ·obtain⟨ts',vs',e1,e2,e3⟩:=R.at_ m b eb;have hab:a≠b:=by
   rintro rfl;exact hm ((List.getElem?_inj (wC.mp ea).1 R.nd).mp (ea.trans eb.symm))
  exact⟨ts',vs',by rw[wa hm];exact e1,by rw[wa hab];exact e2,R.keeps f e3⟩
end
def New(gl:List T)(A X:List Nat)(n:Nat)(h:AH)(M:Mem)(t:T)(w:V):Prop:=∀kvs,t=.ob (.dct kvs)->∃a,w=.ref a/\n<=a/\RelM gl A (X++[a]) h M
theorem New.of_lf{gl:List T}{A X:List Nat}{n:Nat}{h:AH}{M:Mem}{t:T}{w:V}(l:t.lf=true):New gl A X n h M t w:=λkvs e=>by subst e;cases l
theorem New.lst{gl:List T}{A X:List Nat}{n:Nat}{h:AH}{M:Mem}{ts:List T}{w:V}:New gl A X n h M (.lst ts) w:=λkvs e=>by cases e
theorem New.tup{gl:List T}{A X:List Nat}{n:Nat}{h:AH}{M:Mem}{ts:List T}{w:V}:New gl A X n h M (.tup ts) w:=λkvs e=>by cases e
def Frs(gl:List T)(A X:List Nat)(n:Nat)(h:AH)(M:Mem)(t:T)(w:V):Prop:=∃fp,FP X h t w fp/\fp.Nodup/\(∀a∈fp,n<=a)/\RelM gl A (X++fp) h M/\New gl A X n h M t w
def Frss(gl:List T)(A X:List Nat)(n:Nat)(h:AH)(M:Mem)(t:List T)(w:List V):Prop:=∃fp,FPs X h t w fp/\fp.Nodup/\(∀a∈fp,n<=a)/\RelM gl A (X++fp) h M
theorem Frs.of_lf{gl:List T}{A X:List Nat}{n:Nat}{h:AH}{M:Mem}{t:T}{w:V}(R:RelM gl A X h M)(r:Rep A X h t w)(l:t.lf=true):Frs gl A X n h M t w:=⟨[],qAs t r l,vO,λa ha=>by simp at ha,by rw[wV];exact R,New.of_lf l⟩
theorem Frss.of_lf{gl:List T}{A X:List Nat}{n:Nat}{h:AH}{M:Mem}{t:List T}{w:List V}(R:RelM gl A X h M)(r:qL A X h t w)(l:T.lfs t=true):Frss gl A X n h M t w:=⟨[],V9 t r l,vO,λa ha=>by simp at ha,by rw[wV];exact R⟩
def Sim{α β:Type}(gl:List T)(A X:List Nat)(h:AH)(Q:α->β->AH->Mem->Prop):PR (α×Mem)->Res (β×AH)->Prop
 | .ok (x,M'),r=>∃y h',r=.ok (y,h')/\Frm A h h'/\RelM gl A X h' M'/\Q x y h' M'
 | .exc c M',r=>∃h',r=.exc c h'/\Frm A h h'/\RelM gl A X h' M'
 | .stuck,_=>True
theorem Sim.bind{α β α2 β2:Type}{gl:List T}{A X:List Nat}{h:AH}{Q:α->β->AH->Mem->Prop}{Q2:α2->β2->AH->Mem->Prop}{r:PR (α×Mem)}{rh:Res (β×AH)}{f:α×Mem->PR (α2×Mem)}{g:β×AH->Res (β2×AH)}
  (s:Sim gl A X h Q r rh) (k:∀x M' y h',Frm A h h'->RelM gl A X h' M'->Q x y h' M'->Sim gl A X h' Q2 (f (x,M')) (g (y,h'))):Sim gl A X h Q2 (r.bind f) (rh.bind g):=by
 cases r with
 |ok p=>
  obtain⟨x,M'⟩:=p;obtain⟨y,h',rfl,f1,R1,q⟩:=s;have:=k x M' y h' f1 R1 q;rw[tD,tH];revert this;generalize f (x,M')=r2;generalize g (y,h')=rh2;intro s2;cases r2 with
  |ok p2=>
   obtain⟨x2,M2⟩:=p2;obtain⟨y2,h2,e2,f2,R2,q2⟩:=s2;exact⟨y2,h2,e2,f1.trans f2,R2,q2⟩
  |exc c M2=>
   obtain⟨h2,e2,f2,R2⟩:=s2;exact⟨h2,e2,f1.trans f2,R2⟩
  |stuck=>trivial
 |exc c M'=>
  obtain⟨h',rfl,f1,R1⟩:=s;exact⟨h',rfl,f1,R1⟩
 |stuck=>trivial
theorem Sim.nx{α β:Type}{gl:List T}{A X:List Nat}{h:AH}{Q:α->β->AH->Mem->Prop}{r:PR (α×Mem)}{rh:Res (β×AH)}(s:Sim gl A X h Q r rh):Sim gl A X h Q r.nx rh.nx:=by
 cases r with
 |ok p=>obtain⟨x,M'⟩:=p;obtain⟨y,h',rfl,a,b,c⟩:=s;exact⟨y,h',rfl,a,b,c⟩
 |exc c M'=>trivial
 |stuck=>trivial
theorem Sim.stuck{α β:Type}{gl:List T}{A X:List Nat}{h:AH}{Q:α->β->AH->Mem->Prop}{r:Res (β×AH)}:Sim gl A X h Q (.stuck:PR (α×Mem)) r:=trivial
theorem tM{α β α2:Type}{gl:List T}{A X:List Nat}{h:AH}{Q:α->β->AH->Mem->Prop}{o:Option α2}{f:α2->PR (α×Mem)}{r:Res (β×AH)}(k:∀x,o=some x->Sim gl A X h Q (f x) r):Sim gl A X h Q ((tJ o).bind f) r:=by
 cases o with
 |none=>trivial
 |some x=>exact k x rfl
def QE(gl:List T)(A X:List Nat)(n:Nat):TB->V->AH->Mem->Prop:=λx w h M=>Rep A X h x.1 w/\(x.2=true->Frs gl A X n h M x.1 w)
def QEs(gl:List T)(A X:List Nat)(n:Nat):List TB->List V->AH->Mem->Prop:=λx w h M=>qL A X h (x.map (·.1)) w/\(x.all (·.2)=true->Frss gl A X n h M (x.map (·.1)) w)
theorem QE.le{gl:List T}{A X:List Nat}{n m:Nat}{x:TB}{w:V}{h:AH}{M:Mem}(q:QE gl A X n x w h M)(l:m<=n):QE gl A X m x w h M:=⟨q.1,λe=>by obtain⟨fp,a,b,c,d,nw⟩:=q.2 e;exact⟨fp,a,b,λz hz=>wM l (c z hz),d,λkvs e=>by obtain⟨z,q1,q2,q3⟩:=nw kvs e;exact⟨z,q1,wM l q2,q3⟩⟩⟩
theorem Sim.le{gl:List T}{A X:List Nat}{h:AH}{n m:Nat}{r:PR (TB×Mem)}{rh:RV}(s:Sim gl A X h (QE gl A X n) r rh)(l:m<=n):Sim gl A X h (QE gl A X m) r rh:=by
 cases r with
 |ok p=>obtain⟨y,h',e,f,R,q⟩:=s;exact⟨y,h',e,f,R,q.le l⟩
 |exc c M=>exact s
 |stuck=>trivial
theorem RelM.weak{gl:List T}{A X X':List Nat}{h:AH}{M:Mem}(R:RelM gl A X' h M)(hX:∀a∈X,a∈X')(hA:∀a∈A,a∈X):RelM gl A X h M:=by
 have hn:∀a o,a∉X'->h[a]?=some o->a∉X/\h[a]?=some o:=λa o x y=>⟨λz=>x (hX _ z),y⟩
 refine⟨R.len,R.nd,hA,λa ha=>R.lt a (hX a ha),λn a e=>?_,λg t e=>zO (λ_ _ e=>e) hn t (R.glo g t e)⟩;obtain⟨ts,vs,e1,e2,e3⟩:=R.at_ n a e;exact⟨ts,vs,e1,e2,qO (λ_ _ e=>e) hn ts e3⟩
theorem RelM.addX{gl:List T}{A X X':List Nat}{h:AH}{M:Mem}(R:RelM gl A X h M){o:O}(h1:∀a,a∈X'↔a=h.length\/a∈X):RelM gl A X' (h++[o]) M:=by
 have hn:∀a o',a∉X->h[a]?=some o'->a∉X'/\(h++[o])[a]?=some o':=λa o' x y=>⟨by
  rw[h1];rintro(z|z)
  ·have:=qM y;omega
  ·exact x z,by rw[wD (qM y)];exact y⟩
 refine⟨R.len,R.nd,λa ha=>(h1 a).mpr (.inr (R.sub a ha)),λa ha=>?_,λn a e=>?_,λg t e=>zO (λ_ _ e=>e) hn t (R.glo g t e)⟩
 ·rcases(h1 a).mp ha with z|z
  ·simp[z]
  ·have:=R.lt a z;simp;omega
 ·obtain⟨ts,vs,e1,e2,e3⟩:=R.at_ n a e;exact⟨ts,vs,e1,by rw[wD (qM e2)];exact e2,qO (λ_ _ e=>e) hn ts e3⟩
section
variable{gl:List T}{A X:List Nat}{h:AH}{M:Mem}
theorem J0(R:RelM gl A X h M){t:T}{w:V}{ts:List T}(r:Rep A X h t w)(e:t.its M=some ts):∃a vs,w=.ref a/\items h a=some vs/\qL A X h ts vs:=by
 cases t with
 |v x=>cases e
 |cell n=>
  unfold Rep at r;obtain⟨a,ea,rfl⟩:=r;obtain⟨ts',vs,e1,e2,e3⟩:=R.at_ n a ea;have:M[n]?=some ts:=e;rw[e1]at this;cases this;exact⟨a,vs,rfl,by unfold items;rw[e2],e3⟩
 |fz xs=>unfold Rep at r;obtain⟨a,vs,rfl,_,q,k⟩:=r;cases e;exact⟨a,vs,rfl,by unfold items;rw[q],k⟩
 |lst xs=>unfold Rep at r;obtain⟨a,vs,rfl,_,q,k⟩:=r;cases e;exact⟨a,vs,rfl,by unfold items;rw[q],k⟩
 |tup xs=>unfold Rep at r;obtain⟨a,vs,rfl,_,q,k⟩:=r;cases e;exact⟨a,vs,rfl,by unfold items;rw[q],k⟩
 |ob o=>cases e
theorem zD(R:RelM gl A X h M){t:T}{w:V}{ts:List T}(r:Rep A X h t w)(e:t.lis M=some ts):∃a vs f,w=.ref a/\h[a]?=some (.lst f vs)/\qL A X h ts vs:=by
 cases t with
 |v x=>cases e
 |cell n=>
  unfold Rep at r;obtain⟨a,ea,rfl⟩:=r;obtain⟨ts',vs,e1,e2,e3⟩:=R.at_ n a ea;have:M[n]?=some ts:=e;rw[e1]at this;cases this;exact⟨a,vs,false,rfl,e2,e3⟩
 |fz xs=>unfold Rep at r;obtain⟨a,vs,rfl,_,q,k⟩:=r;cases e;exact⟨a,vs,true,rfl,q,k⟩
 |lst xs=>unfold Rep at r;obtain⟨a,vs,rfl,_,q,k⟩:=r;cases e;exact⟨a,vs,false,rfl,q,k⟩
 |tup xs=>cases e
 |ob o=>cases e
theorem V6(R:RelM gl A X h M){t:T}{w:V}{ts:List T}(r:Rep A X h t w)(e:t.mu M=some ts):∃a vs,w=.ref a/\qo h a=some vs/\qL A X h ts vs:=by
 cases t with
 |v x=>cases e
 |cell n=>
  unfold Rep at r;obtain⟨a,ea,rfl⟩:=r;obtain⟨ts',vs,e1,e2,e3⟩:=R.at_ n a ea;have:M[n]?=some ts:=e;rw[e1]at this;cases this;exact⟨a,vs,rfl,by unfold qo;rw[e2],e3⟩
 |fz xs=>cases e
 |lst xs=>unfold Rep at r;obtain⟨a,vs,rfl,_,q,k⟩:=r;cases e;exact⟨a,vs,rfl,by unfold qo;rw[q],k⟩
 |tup xs=>cases e
 |ob o=>cases e
theorem qZ{t:T}{x:V}(e:t.isV=some x):t=.v x:=by cases t<;>cases e;rfl
theorem jd{t:T}{w:V}(e:t.isV=none)(r:Rep A X h t w):∃a:Nat,w=.ref a:=by
 cases t with
 |v x=>cases e
 |cell n=>unfold Rep at r;obtain⟨a,_,e⟩:=r;exact⟨a,e⟩
 |fz xs=>unfold Rep at r;obtain⟨a,vs,e,_⟩:=r;exact⟨a,e⟩
 |lst xs=>unfold Rep at r;obtain⟨a,vs,e,_⟩:=r;exact⟨a,e⟩
 |tup xs=>unfold Rep at r;obtain⟨a,vs,e,_⟩:=r;exact⟨a,e⟩
 |ob o=>unfold Rep at r;obtain⟨a,e,_⟩:=r;exact⟨a,e⟩
theorem QU(R:RelM gl A X h M){ts:List T}{vs:List V}{n:Nat}{f:Bool}(r:qL A X h ts vs)(hn:n<=h.length)(hf:f=true->Frss gl A X n h M ts vs):Sim gl A X h (QE gl A X n) (.ok ((.lst ts,f),M)) (newL vs h):=by
 have fm:Frm A h (h++[O.lst false vs]):=Frm.app A h _;have hx:h.length∉X:=λz=>wf _ (R.lt _ z);have ha:(h++[O.lst false vs])[h.length]?=some (.lst false vs):=by simp
 refine⟨.ref h.length,_,rfl,fm,R.up _,?_,λe=>?_⟩
 ·show Rep A X _ (.lst ts) _;unfold Rep;exact⟨_,vs,rfl,hx,ha,R.keeps fm r⟩
 ·obtain⟨fp,p,nd,l,R'⟩:=hf e;refine⟨fp++[h.length],?_,?_,?_,R'.addX λa=>by simp only[wJ,wU];grind,New.lst⟩
  ·show FP X _ (.lst ts) _ _;unfold FP;exact⟨_,vs,fp,rfl,hx,ha,ze (R.keepN fm) ts p,rfl⟩
  ·rw[wt];refine⟨nd,by simp,?_⟩;rintro a ha b hb rfl;obtain⟨_,vs',q⟩:=jt ts p a ha;simp at hb;have:=qM q;omega
  ·intro a ha;rcases wJ.mp ha with z|z
   ·exact l a z
   ·simp at z;omega
theorem ZT(R:RelM gl A X h M){ts:List T}{vs:List V}{n:Nat}{f:Bool}(r:qL A X h ts vs)(hf:f=true->Frss gl A X n h M ts vs):Sim gl A X h (QE gl A X n) (.ok ((.tup ts,f),M)) (newT vs h):=by
 have fm:Frm A h (h++[O.tup vs]):=Frm.app A h _;have hx:h.length∉X:=λz=>wf _ (R.lt _ z);have ha:(h++[O.tup vs])[h.length]?=some (.tup vs):=by simp
 refine⟨.ref h.length,_,rfl,fm,R.up _,?_,λe=>?_⟩
 ·show Rep A X _ (.tup ts) _;unfold Rep;exact⟨_,vs,rfl,hx,ha,R.keeps fm r⟩
 ·obtain⟨fp,p,nd,l,R'⟩:=hf e;refine⟨fp,?_,nd,l,R'.up _,New.tup⟩;show FP X _ (.tup ts) _ _;unfold FP;exact⟨_,vs,rfl,hx,ha,ze (R.keepN fm) ts p⟩
theorem Jz(R:RelM gl A X h M){ts:List T}{vs:List V}(r:qL A X h ts vs):Sim gl A X h (QE gl A X h.length) (.ok (lT ts,M)) (newL vs h):=
 QU R r (wF _) λe=>Frss.of_lf R r e
theorem qD(R:RelM gl A X h M){x:V}(fx:flat x=true){n:Nat}:Sim gl A X h (QE gl A X n) (.ok ((.v x,true),M)) (.ok (x,h)):=
 have r:Rep A X h (.v x) x:=by unfold Rep;exact⟨rfl,fx⟩
 ⟨x,h,rfl,Frm.refl A h,R,r,λ_=>Frs.of_lf R r rfl⟩
theorem zC{x w:V}(r:Rep A X h (.v x) w):w=x:=by unfold Rep at r;exact r.1
theorem qAA(xs:List T):T.lf (.tup xs)=T.lfs xs:=by rw[T.lf]
theorem qBN(R:RelM gl A X h M){op:BOp}{s t:T}{x y:V}{r:TB}(e:qc M op s t=some r)(r1:Rep A X h s x)(r2:Rep A X h t y):Sim gl A X h (QE gl A X h.length) (.ok (r,M)) (Y3 op x y h):=by
 unfold qc at e;split at e
 ·rename_i i j e1 e2;cases qZ e1;cases qZ e2;cases zC r1;cases zC r2;cases op with
  |add=>cases e;exact qD R rfl
  |sub=>cases e;exact qD R rfl
  |mul=>dsimp only at e;split at e<;>cases e;rename_i c;show Sim _ _ _ _ _ _ (if _ then _ else _);rw[if_pos c];exact qD R rfl
  |fdiv=>
   dsimp only at e;show Sim _ _ _ _ _ _ (if _ then _ else _);split at e
   ·rename_i c;cases e;rw[if_pos c];exact qD R rfl
   ·rename_i c;rw[if_neg c];split at e
    ·rename_i c;cases e;rw[if_pos c];exact qD R rfl
    ·cases e
  |mod=>
   dsimp only at e;show Sim _ _ _ _ _ _ (if _ then _ else _);split at e
   ·rename_i c;cases e;rw[if_pos c];exact qD R rfl
   ·rename_i c;rw[if_neg c];split at e
    ·rename_i c;cases e;rw[if_pos c];exact qD R rfl
    ·cases e
  |pow=>dsimp only at e;split at e<;>cases e;rename_i c;show Sim _ _ _ _ _ _ (if _ then _ else _);rw[if_pos c];exact qD R rfl
  |band=>cases e;exact qD R rfl
  |shl=>dsimp only at e;split at e<;>cases e;rename_i c;show Sim _ _ _ _ _ _ (if _ then _ else _);rw[if_pos c];exact qD R rfl
 ·rename_i k e1 e2;cases qZ e2;cases zC r2;obtain⟨a,rfl⟩:=jd e1 r1;cases op<;>first|cases e|skip
  dsimp only at e;cases em:s.mu M with
  |none=>rw[em]at e;cases e
  |some xs=>
   rw[em]at e;dsimp only[Option.bind_some]at e;split at e<;>cases e;rename_i c;obtain⟨a',vs,ea,m,rs⟩:=V6 R r1 em;cases ea;have lv:vs.length=xs.length:=(qE (reps_iff.mp rs)).symm;show Sim _ _ _ _ _ _ (match qo h a with|some xs=>_|none=>_);rw[m];dsimp only;rw[if_pos (by rw[lv];exact c)];exact Jz R (reps_iff.mpr (c8 _ (reps_iff.mp rs)))
 ·rename_i e1 e2;obtain⟨a,rfl⟩:=jd e1 r1;obtain⟨b,rfl⟩:=jd e2 r2;cases op<;>first|cases e|skip
  dsimp only at e;split at e
  ·rename_i xs ys;split at e<;>cases e;rename_i c;unfold Rep at r1 r2;obtain⟨a1,vs,ea,n1,k1,q1⟩:=r1;cases ea;obtain⟨b1,us,eb,n2,k2,q2⟩:=r2;cases eb;have lv:vs.length=xs.length:=(qE (reps_iff.mp q1)).symm;have lu:us.length=ys.length:=(qE (reps_iff.mp q2)).symm;have m1:qo h a=none:=by unfold qo;rw[k1]
   have t1:qU h a=some vs:=by unfold qU;rw[k1]
   have t2:qU h b=some us:=by unfold qU;rw[k2]
   have q3:=reps_iff.mpr (zU (reps_iff.mp q1) (reps_iff.mp q2));show Sim _ _ _ _ _ _ (match qo h a,qo h b with|some xs,some ys=>_|_,_=>_);rw[m1];show Sim _ _ _ _ _ _ (match qU h a,qU h b with|some xs,some ys=>_|_,_=>_);rw[t1,t2];dsimp only;rw[if_pos ⟨λz=>c.1 (by subst z;exact wl.mp lv.symm),by rw[lv,lu];exact c.2⟩];split
   ·rename_i z;subst z;have y0:ys=[]:=wl.mp lu.symm;subst y0;have r:Rep A X h (.tup (xs++[])) (.ref a):=by
     rw[wV];unfold Rep;exact⟨a,vs,rfl,n1,k1,q1⟩
    exact⟨_,h,rfl,Frm.refl A h,R,r,λe=>Frs.of_lf R r (by rw[qAA];exact e)⟩
   ·exact ZT R q3 λe=>Frss.of_lf R q3 e
  cases em:s.mu M with
  |none=>rw[em]at e;cases e
  |some xs=>
   rw[em]at e;dsimp only[Option.bind_some]at e;cases en:t.mu M with
   |none=>rw[en]at e;cases e
   |some ys=>
    rw[en]at e;dsimp only[Option.bind_some]at e;split at e<;>cases e;rename_i c;obtain⟨a',vs,ea,m,rs⟩:=V6 R r1 em;cases ea;obtain⟨b',us,eb,m2,rs2⟩:=V6 R r2 en;cases eb;have lv:vs.length=xs.length:=(qE (reps_iff.mp rs)).symm;have lu:us.length=ys.length:=(qE (reps_iff.mp rs2)).symm;show Sim _ _ _ _ _ _ (match qo h a,qo h b with|some xs,some ys=>_|_,_=>_);rw[m,m2];dsimp only;rw[if_pos (by rw[lv,lu];exact c)];exact Jz R (reps_iff.mpr (zU (reps_iff.mp rs) (reps_iff.mp rs2)))
 ·cases e
theorem D1{x:V}{b:Bool}(e:eqF x x=some b):b=true:=by
 cases x with
 |int i=>cases e;exact vp i
 |bl i=>cases e;exact vp i
 |str i=>cases e;exact vp i
 |non=>cases e;rfl
 |_=>cases e
theorem jJ{f:T->T->Option Bool}(hf:∀t b,f t t=some b->b=true):∀(ts:List T) bs,zg f ts ts=some bs->bs.all id=true
 | [],bs,e=>by cases e;rfl
 |t::ts,bs,e=>by
  unfold zg at e;split at e
  ·rename_i b bs' e1 e2;cases e;rw[List.all_cons,hf t b e1,jJ hf ts bs' e2];rfl
  ·cases e
theorem Zg:∀(n:Nat) (t:T) (b:Bool),eqT M n t t=some b->b=true
 | 0,t,b,e=>by
  unfold eqT at e;split at e
  ·rename_i x y e1 e2;rw[e1]at e2;cases e2;exact D1 e
  ·cases e
 |n+1,t,b,e=>by
  unfold eqT at e;split at e
  ·rename_i x y e1 e2;rw[e1]at e2;cases e2;exact D1 e
  ·rename_i e1 e2;rw[e1]at e2;cases e2
  ·rename_i e1 e2;rw[e1]at e2;cases e2
  ·split at e
   ·rename_i xs ys e1 e2;rw[e1]at e2;cases e2;rw[if_pos rfl]at e;obtain⟨bs,eb,rfl⟩:=wA.mp e;exact jJ (Zg n) xs bs eb
   ·rename_i e1 e2;rw[e1]at e2;cases e2
   ·rename_i e1 e2;rw[e1]at e2;cases e2
   ·split at e
    ·rename_i xs ys e1 e2;rw[e1]at e2;cases e2;rw[if_pos rfl]at e;obtain⟨bs,eb,rfl⟩:=wA.mp e;exact jJ (Zg n) xs bs eb
    ·cases e
theorem QQ{f:T->T->Option Bool}{g:V->V->Option Bool}(hf:∀s t x y b,Rep A X h s x->Rep A X h t y->f s t=some b->g x y=some b):∀{ss ts:List T}{xs ys:List V}{bs:List Bool},qL A X h ss xs->qL A X h ts ys->zg f ss ts=some bs->Qu g xs ys=some bs
 | [],[],xs,ys,bs,r1,r2,e=>by unfold qL at r1 r2;subst r1 r2;exact e
 | [],t::ts,xs,ys,bs,r1,r2,e=>by cases e
 |s::ss,[],xs,ys,bs,r1,r2,e=>by cases e
 |s::ss,t::ts,xs,ys,bs,r1,r2,e=>by
  unfold qL at r1 r2;obtain⟨x,xs',rfl,a1,a2⟩:=r1;obtain⟨y,ys',rfl,b1,b2⟩:=r2;unfold zg at e;split at e
  ·rename_i b bs' e1 e2;cases e;unfold Qu;rw[hf s t x y b a1 b1 e1,QQ hf a2 b2 e2]
  ·cases e
theorem jI{x w:V}(r:Rep A X h (.v x) w):flat x=true:=by unfold Rep at r;exact r.2
theorem J5(R:RelM gl A X h M){t:T}{a:Nat}(r:Rep A X h t (.ref a))(hs:(t.its M).isSome=true):(items h a).isSome=true:=by
 cases t with
 |v x=>unfold Rep at r;exact(jB r.2 r.1).elim
 |cell n=>unfold Rep at r;obtain⟨b,eb,e⟩:=r;cases e;obtain⟨_,_,_,q,_⟩:=R.at_ n _ eb;unfold items;rw[q];rfl
 |fz xs=>unfold Rep at r;obtain⟨b,vs,e,_,q,_⟩:=r;cases e;unfold items;rw[q];rfl
 |lst xs=>unfold Rep at r;obtain⟨b,vs,e,_,q,_⟩:=r;cases e;unfold items;rw[q];rfl
 |tup xs=>unfold Rep at r;obtain⟨b,vs,e,_,q,_⟩:=r;cases e;unfold items;rw[q];rfl
 |ob o=>cases hs
theorem C5{t:T}{w:V}{ts:List T}(r:Rep A X h t w)(e1:t.isV=none)(e2:t.lis M=none)(e:t.its M=some ts):∃a vs,w=.ref a/\h[a]?=some (.tup vs)/\qL A X h ts vs:=by
 cases t with
 |v x=>cases e1
 |cell n=>have z:M[n]?=some ts:=e;have z2:M[n]?=none:=e2;rw[z]at z2;cases z2
 |fz xs=>cases e2
 |lst xs=>cases e2
 |tup xs=>unfold Rep at r;obtain⟨b,vs,e',_,q,k⟩:=r;cases e;exact⟨b,vs,e',q,k⟩
 |ob o=>cases e
theorem Z5{n:Nat}{x y:V}(fx:flat x=true)(fy:flat y=true):eqD h (n+1) x y=eqF x y:=by
 cases x<;>cases y<;>first|rfl|(simp[flat]at fx;done)|(simp[flat]at fy;done)
theorem Je(R:RelM gl A X h M):∀(n:Nat) (s t:T) (x y:V) (b:Bool),Rep A X h s x->Rep A X h t y->eqT M n s t=some b->eqD h n x y=some b
 | 0,s,t,x,y,b,r1,r2,e=>by
  unfold eqT at e;split at e
  ·rename_i x' y' e1 e2;cases qZ e1;cases qZ e2;cases zC r1;cases zC r2;unfold eqD;exact e
  ·cases e
 |n+1,s,t,x,y,b,r1,r2,e=>by
  unfold eqT at e;split at e
  ·rename_i x' y' e1 e2;cases qZ e1;cases qZ e2;cases zC r1;cases zC r2;rw[Z5 (jI r1) (jI r2)];exact e
  ·rename_i x' e1 e2;cases qZ e1;cases zC r1;obtain⟨c,rfl⟩:=jd e2 r2;have fx:=jI r1;split at e<;>cases e;rename_i hz;have:=J5 R r2 hz;cases x<;>first|(unfold eqD;simp[flat,this];done)|(simp[flat]at fx;done)
  ·rename_i y' e1 e2;cases qZ e2;cases zC r2;obtain⟨c,rfl⟩:=jd e1 r1;have fx:=jI r2;split at e<;>cases e;rename_i hz;have:=J5 R r1 hz;cases y<;>first|(unfold eqD;simp[flat,this];done)|(simp[flat]at fx;done)
  ·rename_i e1 e2;obtain⟨c,rfl⟩:=jd e1 r1;obtain⟨d,rfl⟩:=jd e2 r2;have same:c=d->b=true:=by
    rintro rfl;have:=O9 R.nd R.sub s t r1 r2;subst this;refine Zg (M:=M) (n+1) s b ?_;unfold eqT;rw[e1];exact e
   split at e
   ·rename_i xs ys l1 l2;obtain⟨_,vs,f1,q1,k1,m1⟩:=zD R r1 l1;cases q1;obtain⟨_,us,f2,q2,k2,m2⟩:=zD R r2 l2;cases q2;unfold eqD;rw[k1,k2];dsimp only;by_cases hcd:c=d
    ·rw[if_pos hcd,same hcd]
    ·rw[if_neg hcd,<-qE (reps_iff.mp m1),<-qE (reps_iff.mp m2)];split at e
     ·rename_i hl;rw[if_pos hl];obtain⟨bs,eb,rfl⟩:=wA.mp e;rw[QQ (λs t x y b a1 a2 a3=>Je R n s t x y b a1 a2 a3) m1 m2 eb];rfl
     ·rename_i hl;rw[if_neg hl];exact e
   ·rename_i l1 l2;obtain⟨_,vs,f1,q1,k1,m1⟩:=zD R r1 l1;cases q1;split at e<;>cases e;rename_i z;cases ei:t.its M with
    |none=>rw[ei]at z;cases z
    |some ys=>
     obtain⟨_,us,q2,k2,m2⟩:=C5 r2 e2 l2 ei;cases q2;unfold eqD;rw[k1,k2]
   ·rename_i l1 l2;obtain⟨_,vs,f1,q1,k1,m1⟩:=zD R r2 l2;cases q1;split at e<;>cases e;rename_i z;cases ei:s.its M with
    |none=>rw[ei]at z;cases z
    |some ys=>
     obtain⟨_,us,q2,k2,m2⟩:=C5 r1 e1 l1 ei;cases q2;unfold eqD;rw[k1,k2]
   ·rename_i l1 l2;split at e
    ·rename_i xs ys i1 i2;obtain⟨_,vs,q1,k1,m1⟩:=C5 r1 e1 l1 i1;cases q1;obtain⟨_,us,q2,k2,m2⟩:=C5 r2 e2 l2 i2;cases q2;unfold eqD;rw[k1,k2];dsimp only;by_cases hcd:c=d
     ·rw[if_pos hcd,same hcd]
     ·rw[if_neg hcd,<-qE (reps_iff.mp m1),<-qE (reps_iff.mp m2)];split at e
      ·rename_i hl;rw[if_pos hl];obtain⟨bs,eb,rfl⟩:=wA.mp e;rw[QQ (λs t x y b a1 a2 a3=>Je R n s t x y b a1 a2 a3) m1 m2 eb];rfl
      ·rename_i hl;rw[if_neg hl];obtain⟨bs,eb,rfl⟩:=wA.mp e;rw[QQ (λs t x y b a1 a2 a3=>Je R n s t x y b a1 a2 a3) (reps_iff.mpr (jg _ (reps_iff.mp m1))) (reps_iff.mpr (jg _ (reps_iff.mp m2))) eb];rfl
    ·cases e
theorem Zt:∀{ts:List T}{vs xs:List V},qL A X h ts vs->zu ts=some xs->vs=xs/\xs.all flat=true
 | [],vs,xs,r,e=>by unfold qL at r;subst r;cases e;exact⟨rfl,rfl⟩
 |t::ts,vs,xs,r,e=>by
  unfold qL at r;obtain⟨v,vs',rfl,a,b⟩:=r;cases t with
  |v x=>
   unfold zu at e;obtain⟨xs',e',rfl⟩:=wA.mp e;obtain⟨rfl,k⟩:=Zt b e';cases zC a;exact⟨rfl,by rw[List.all_cons,jI a,k];rfl⟩
  |_=>cases e
theorem qBE{t:T}{kvs:List (Int×V)}{w:V}(e:t.dct=some kvs)(r:Rep A X h t w):∃p:Nat,w=.ref p/\p∉X/\h[p]?=some (.ob (.dct kvs)):=by
 cases t with
 |ob o=>
  cases o with
  |dct k=>cases e;unfold Rep at r;exact r
  |exn c=>cases e
 |_=>cases e
theorem n5(R:RelM gl A X h M){s t:T}{x y:V}{b:Bool}(r1:Rep A X h s x)(r2:Rep A X h t y)(e:inT M s t=some b):N5 .inn x y h=some b/\N5 .notin x y h=some (!b):=by
 unfold inT at e;cases hd:t.dct with
 |some kvs=>
  rw[hd]at e;obtain⟨p,rfl,q1,q2⟩:=qBE hd r2;have i0:items h p=none:=by unfold items;rw[q2]
  have d0:JL h p=some kvs:=by unfold JL;rw[q2]
  dsimp only at e;split at e
  ·cases e;cases zC r1;constructor
   ·dsimp only[N5,n9];rw[i0];dsimp only;rw[d0]
   ·dsimp only[N5,n9];rw[i0];dsimp only;rw[d0]
  ·cases e
 |none=>
 rw[hd]at e;dsimp only at e;obtain⟨a,ea,e⟩:=wH.mp e;obtain⟨ts,et,e⟩:=wH.mp e;obtain⟨xs,ex,rfl⟩:=wA.mp e;cases qZ ea;cases zC r1;obtain⟨p,vs,rfl,q1,q2⟩:=J0 R r2 et;obtain⟨rfl,k⟩:=Zt q2 ex;have fx:=jI r1;constructor
 ·dsimp only[N5,n9];rw[q1];dsimp only;rw[if_pos (by rw[fx,k];rfl)]
 ·dsimp only[N5,n9];rw[q1];dsimp only;rw[if_pos (by rw[fx,k];rfl)]
theorem ju(R:RelM gl A X h M){op:COp}{s t:T}{x y:V}{b:Bool}(r1:Rep A X h s x)(r2:Rep A X h t y)(e:qu M op s t=some b):N5 op x y h=some b:=by
 cases op with
 |eq=>exact Je R 4 s t x y b r1 r2 e
 |ne=>
  obtain⟨c,ec,rfl⟩:=wA.mp (show (eqT M 4 s t).map (!·)=some b from e);show (eqD h 4 x y).map (!·)=_;rw[Je R 4 s t x y c r1 r2 ec];rfl
 |inn=>exact(n5 R r1 r2 e).1
 |notin=>
  obtain⟨c,ec,rfl⟩:=wA.mp (show (inT M s t).map (!·)=some b from e);exact(n5 R r1 r2 ec).2
 |is=>
  unfold qu at e;dsimp only at e;split at e
  ·rename_i e2;cases qZ e2;cases zC r2;cases e;show some (decide (x=V.non))=_;cases hs:s.isV with
   |none=>obtain⟨a,rfl⟩:=jd hs r1;rfl
   |some z=>cases qZ hs;cases zC r1;cases x<;>rfl
  ·rename_i e2;cases qZ e2;cases zC r2;split at e
   ·rename_i e3;cases qZ e3;cases zC r1;exact e
   ·cases e
  ·cases e
 |isnot=>
  unfold qu at e;dsimp only at e;split at e
  ·rename_i e2;cases qZ e2;cases zC r2;cases e;show some (!decide (x=V.non))=_;cases hs:s.isV with
   |none=>obtain⟨a,rfl⟩:=jd hs r1;rfl
   |some z=>cases qZ hs;cases zC r1;cases x<;>rfl
  ·rename_i e2;cases qZ e2;cases zC r2;split at e
   ·rename_i e3;cases qZ e3;cases zC r1;exact e
   ·cases e
  ·cases e
 |lt=>unfold qu at e;dsimp only at e;split at e<;>first|(rename_i e1 e2;cases qZ e1;cases qZ e2;cases zC r1;cases zC r2;exact e)|cases e
 |le=>unfold qu at e;dsimp only at e;split at e<;>first|(rename_i e1 e2;cases qZ e1;cases qZ e2;cases zC r1;cases zC r2;exact e)|cases e
 |gt=>unfold qu at e;dsimp only at e;split at e<;>first|(rename_i e1 e2;cases qZ e1;cases qZ e2;cases zC r1;cases zC r2;exact e)|cases e
 |ge=>unfold qu at e;dsimp only at e;split at e<;>first|(rename_i e1 e2;cases qZ e1;cases qZ e2;cases zC r1;cases zC r2;exact e)|cases e
theorem jM:∀{ts:List T}{vs:List V}{is:List Int},qL A X h ts vs->qX ts=some is->zR vs=some is
 | [],vs,xs,r,e=>by unfold qL at r;subst r;cases e;rfl
 |t::ts,vs,xs,r,e=>by
  unfold qL at r;obtain⟨v,vs',rfl,a,b⟩:=r;unfold qX at e;split at e
  ·rename_i e';cases e'
  ·rename_i e';cases e';obtain⟨xs',e',rfl⟩:=wA.mp e;cases zC a;show (zR vs').map _=_;rw[jM b e'];rfl
  ·cases e
theorem B1:∀{ts:List T}{vs:List V}{is:List Int},qL A X h ts vs->jN ts=some is->zr vs=some is
 | [],vs,xs,r,e=>by unfold qL at r;subst r;cases e;rfl
 |t::ts,vs,xs,r,e=>by
  unfold qL at r;obtain⟨v,vs',rfl,a,b⟩:=r;unfold jN at e;split at e
  ·rename_i e';cases e'
  ·rename_i e';cases e';obtain⟨xs',e',rfl⟩:=wA.mp e;cases zC a;show (zr vs').map _=_;rw[B1 b e'];rfl
  ·rename_i e';cases e';obtain⟨xs',e',rfl⟩:=wA.mp e;cases zC a;show (zr vs').map _=_;rw[B1 b e'];rfl
  ·cases e
theorem Zd:∀{ts:List T}{vs:List V}{is:List Bool},qL A X h ts vs->zQ ts=some is->jO vs=some is
 | [],vs,xs,r,e=>by unfold qL at r;subst r;cases e;rfl
 |t::ts,vs,xs,r,e=>by
  unfold qL at r;obtain⟨v,vs',rfl,a,b⟩:=r;unfold zQ at e;split at e
  ·rename_i e';cases e'
  ·rename_i e';cases e';obtain⟨xs',e',rfl⟩:=wA.mp e;cases zC a;show (jO vs').map _=_;rw[Zd b e'];rfl
  ·cases e
theorem jZ{t:T}{ws:List V}(r:qL A X h [t] ws):∃w,ws=[w]/\Rep A X h t w:=by
 unfold qL at r;obtain⟨v,vs,rfl,a,b⟩:=r;unfold qL at b;subst b;exact⟨v,rfl,a⟩
theorem qCa{s t:T}{ws:List V}(r:qL A X h [s,t] ws):∃w u,ws=[w,u]/\Rep A X h s w/\Rep A X h t u:=by
 unfold qL at r;obtain⟨v,vs,rfl,a,b⟩:=r;obtain⟨u,rfl,c⟩:=jZ b;exact⟨v,u,rfl,a,c⟩
theorem qK{a:Nat}{f:Bool}{vs:List V}(e:h[a]?=some (.lst f vs)):qH h a=some vs:=by unfold qH;rw[e]
theorem Zn(R:RelM gl A X h M){t:T}{w:V}{n:Nat}(r:Rep A X h t w):Sim gl A X h (QE gl A X n) (.ok ((t,t.lf),M)) (.ok (w,h)):=
 ⟨w,h,rfl,Frm.refl A h,R,r,λe=>Frs.of_lf R r e⟩
theorem ZS:∀l:List Int,T.lfs (l.map λi=>T.v (.int i))=true
 | []=>by rw[List.map_nil,T.lfs]
 |x::r=>by rw[List.map_cons,T.lfs,ZS r];rfl
theorem QZ{A X:List Nat}{h:AH}:∀l:List Int,qL A X h (l.map λi=>T.v (.int i)) (l.map V.int)
 | []=>by rw[List.map_nil,List.map_nil];unfold qL;rfl
 |x::r=>by
  rw[List.map_cons,List.map_cons];unfold qL;exact⟨_,_,rfl,by unfold Rep;exact⟨rfl,rfl⟩,QZ r⟩
theorem Zh{f:T->Option PySem.PyData}{g:V->Option PySem.PyData}(hf:∀t w d,f t=some d->Rep A X h t w->g w=some d):∀(ts:List T) (ws:List V) (ds:List PySem.PyData),QL f ts=some ds->qL A X h ts ws->K3 g ws=some ds
 | [],ws,ds,e,r=>by
  unfold qL at r;subst r;exact e
 |t::ts,ws,ds,e,r=>by
  unfold qL at r;obtain⟨w,ws',rfl,r1,r2⟩:=r;unfold QL at e;obtain⟨d,e1,e⟩:=wH.mp e;obtain⟨ds',e2,rfl⟩:=wA.mp e;unfold K3;rw[hf t w d e1 r1,Option.bind_some,Zh hf ts ws' ds' e2 r2];rfl
theorem G4{h:AH}{n:Nat}{x:V}{d:PySem.PyData}(e:n6 x=some d):dat h n x=some d:=by
 cases n with
 |zero=>exact e
 |succ n=>cases x<;>first|exact e|cases e
theorem C1(R:RelM gl A X h M):∀(n:Nat) (t:T) (w:V) (d:PySem.PyData),F0 M n t=some d->Rep A X h t w->dat h n w=some d
 | 0,t,w,d,e,r=>by
  unfold F0 at e;split at e
  ·cases zC r;exact G4 e
  ·cases e
 |n+1,t,w,d,e,r=>by
  have ls:∀(ts:List T),t.lis M=some ts->(QL (F0 M n) ts).map PySem.PyData.list=some d->dat h (n+1) w=some d:=λts hl e=>by
   obtain⟨ds,e1,rfl⟩:=wA.mp e;obtain⟨a,vs,f,rfl,q1,q2⟩:=zD R r hl;show (match h[a]? with|some (.lst _ xs)=>(K3 (dat h n) xs).map PySem.PyData.list|some (.tup xs)=>(K3 (dat h n) xs).map PySem.PyData.tuple|some (.ob (.dct []))=>some (PySem.PyData.dict [])|_=>none)=_;rw[q1];dsimp only;rw[Zh (C1 R n) ts vs ds e1 q2];rfl
  unfold F0 at e;split at e
  ·cases zC r;exact G4 e
  ·rename_i ts;obtain⟨ds,e1,rfl⟩:=wA.mp e;unfold Rep at r;obtain⟨a,vs,rfl,q1,q2,q3⟩:=r;show (match h[a]? with|some (.lst _ xs)=>(K3 (dat h n) xs).map PySem.PyData.list|some (.tup xs)=>(K3 (dat h n) xs).map PySem.PyData.tuple|some (.ob (.dct []))=>some (PySem.PyData.dict [])|_=>none)=_;rw[q2];dsimp only;rw[Zh (C1 R n) ts vs ds e1 q3];rfl
  ·exact ls _ rfl e
  ·exact ls _ rfl e
  ·obtain⟨ts,e1,e2⟩:=wH.mp e;exact ls ts e1 e2
  ·cases e;unfold Rep at r;obtain⟨a,rfl,_,q⟩:=r;show (match h[a]? with|some (.lst _ xs)=>(K3 (dat h n) xs).map PySem.PyData.list|some (.tup xs)=>(K3 (dat h n) xs).map PySem.PyData.tuple|some (.ob (.dct []))=>some (PySem.PyData.dict [])|_=>none)=_;rw[q]
  ·cases e
theorem d8(R:RelM gl A X h M)(t:T)(w:V)(d:PySem.PyData)(e:Z8 M t=some d)(r:Rep A X h t w):qD6 h w=some d:=C1 R 5 t w d e r
theorem qAT(R:RelM gl A X h M){f:BF}{ts:List T}{ws:List V}{r:TB}(rs:qL A X h ts ws)(e:zb M f ts=some r):Sim gl A X h (QE gl A X h.length) (.ok (r,M)) (qB8 f ws h):=by
 cases f with
 |len=>
  replace e:=qm e;obtain⟨t0,rfl,e⟩:=e;obtain⟨w,rfl,rw_⟩:=jZ rs;obtain⟨xs,ex,rfl⟩:=wA.mp e;obtain⟨a,vs,rfl,q1,q2⟩:=J0 R rw_ ex;show Sim _ _ _ _ _ _ (match items h a with|some xs=>_|none=>_);rw[q1,qE (reps_iff.mp q2)];exact qD R rfl
 |sum=>
  replace e:=qm e;obtain⟨t0,rfl,e⟩:=e;obtain⟨w,rfl,rw_⟩:=jZ rs;obtain⟨xs,ex,e⟩:=wH.mp e;obtain⟨is,ei,rfl⟩:=wA.mp e;obtain⟨a,vs,f,rfl,q1,q2⟩:=zD R rw_ ex;show Sim _ _ _ _ _ _ (match qH h a with|some xs=>_|none=>_);rw[qK q1];dsimp only;rw[B1 q2 ei];exact qD R rfl
 |all=>
  replace e:=qm e;obtain⟨t0,rfl,e⟩:=e;obtain⟨w,rfl,rw_⟩:=jZ rs;obtain⟨xs,ex,e⟩:=wH.mp e;obtain⟨is,ei,rfl⟩:=wA.mp e;obtain⟨a,vs,f,rfl,q1,q2⟩:=zD R rw_ ex;show Sim _ _ _ _ _ _ (match qH h a with|some xs=>_|none=>_);rw[qK q1];dsimp only;rw[Zd q2 ei];exact qD R rfl
 |any=>
  replace e:=qm e;obtain⟨t0,rfl,e⟩:=e;obtain⟨w,rfl,rw_⟩:=jZ rs;obtain⟨xs,ex,e⟩:=wH.mp e;obtain⟨is,ei,rfl⟩:=wA.mp e;obtain⟨a,vs,f,rfl,q1,q2⟩:=zD R rw_ ex;show Sim _ _ _ _ _ _ (match qH h a with|some xs=>_|none=>_);rw[qK q1];dsimp only;rw[Zd q2 ei];exact qD R rfl
 |max=>
  replace e:=twoT_inv e;obtain⟨i,j,rfl,e⟩:=e;obtain⟨w,u,rfl,a,b⟩:=qCa rs;cases zC a;cases zC b;cases e;exact qD R rfl
 |min=>
  replace e:=twoT_inv e;obtain⟨i,j,rfl,e⟩:=e;obtain⟨w,u,rfl,a,b⟩:=qCa rs;cases zC a;cases zC b;cases e;exact qD R rfl
 |maxl=>
  replace e:=qm e;obtain⟨t0,rfl,e⟩:=e;obtain⟨w,rfl,rw_⟩:=jZ rs;obtain⟨xs,ex,e⟩:=wH.mp e;obtain⟨is,ei,e⟩:=wH.mp e;obtain⟨M,eM,rfl⟩:=wA.mp e;obtain⟨a,vs,f,rfl,q1,q2⟩:=zD R rw_ ex;show Sim _ _ _ _ _ _ (match qH h a with|some xs=>_|none=>_);rw[qK q1];dsimp only;rw[jM q2 ei,Option.bind_some,eM];exact qD R rfl
 |bits=>
  replace e:=qm e;obtain⟨t0,rfl,e⟩:=e;split at e
  ·obtain⟨w,rfl,a⟩:=jZ rs;cases zC a;cases e;exact qD R rfl
  ·cases e
 |list=>
  replace e:=qm e;obtain⟨t0,rfl,e⟩:=e;obtain⟨w,rfl,rw_⟩:=jZ rs;obtain⟨xs,ex,rfl⟩:=wA.mp e;obtain⟨a,vs,rfl,q1,q2⟩:=J0 R rw_ ex;show Sim _ _ _ _ _ _ (match items h a with|some xs=>_|none=>_);rw[q1];exact Jz R q2
 |tuple=>
  replace e:=qm e;obtain⟨t0,rfl,e⟩:=e;obtain⟨w,rfl,rw_⟩:=jZ rs;split at e
  ·cases e;unfold Rep at rw_;obtain⟨a,vs,rfl,q1,q2,q3⟩:=rw_;show Sim _ _ _ _ _ _ (match h[a]? with|some (.lst _ xs)=>_|some (.tup _)=>_|_=>_);rw[q2];exact Zn R (by unfold Rep;exact⟨a,vs,rfl,q1,q2,q3⟩)
  ·obtain⟨xs,ex,rfl⟩:=wA.mp e;obtain⟨a,vs,f,rfl,q1,q2⟩:=zD R rw_ ex;show Sim _ _ _ _ _ _ (match h[a]? with|some (.lst _ xs)=>_|some (.tup _)=>_|_=>_);rw[q1];exact ZT R q2 λe=>Frss.of_lf R q2 e
 |int=>
  replace e:=qm e;obtain⟨t0,rfl,e⟩:=e;split at e
  ·obtain⟨w,rfl,a⟩:=jZ rs;cases zC a;cases e;exact qD R rfl
  ·obtain⟨w,rfl,a⟩:=jZ rs;cases zC a;cases e;exact qD R rfl
  ·cases e
 |repr=>
  replace e:=qm e;obtain⟨t0,rfl,e⟩:=e;obtain⟨w,rfl,rw_⟩:=jZ rs;obtain⟨v,e0,rfl⟩:=wA.mp e;obtain⟨d,e1,e2⟩:=wH.mp e0;have e3:=d8 R t0 w d e1 rw_;show Sim _ _ _ _ _ _ (qDF h w);unfold qDF;rw[e3,Option.bind_some,e2];unfold L3 at e2;split at e2
  ·cases e2;exact qD R rfl
  ·cases e2
 |sorted=>
  replace e:=qm e;obtain⟨t0,rfl,e⟩:=e;obtain⟨w,rfl,rw_⟩:=jZ rs;obtain⟨xs,ex,e⟩:=wH.mp e;obtain⟨is,ei,e⟩:=wH.mp e;obtain⟨a,vs,f,rfl,q1,q2⟩:=zD R rw_ ex;show Sim _ _ _ _ _ _ (match qH h a with|some xs=>_|none=>_);rw[qK q1];dsimp only;rw[jM q2 ei];dsimp only;split at e
  ·rename_i h64;cases e;rw[if_pos h64];have rr:=QZ (A:=A) (X:=X) (h:=h) (zo is);exact QU R rr (wF _) λe=>Frss.of_lf R rr (ZS _)
  ·cases e
theorem Y9(R:RelM gl A X h M){t:T}{w:V}{s:String}(r:Rep A X h t w)(e:qh M t=some s):zj h w=some s:=by
 cases t with
 |v x=>cases zC r;cases w<;>first|exact e|(cases e;done)
 |cell n=>unfold Rep at r;obtain⟨a,ea,rfl⟩:=r;obtain⟨ts,vs,e1,e2,_⟩:=R.at_ n a ea;unfold qh at e;dsimp only at e;rw[e1]at e;cases e;unfold zj;dsimp only;rw[e2]
 |fz xs=>unfold Rep at r;obtain⟨a,vs,rfl,_,q,_⟩:=r;cases e;unfold zj;dsimp only;rw[q]
 |lst xs=>unfold Rep at r;obtain⟨a,vs,rfl,_,q,_⟩:=r;cases e;unfold zj;dsimp only;rw[q]
 |tup xs=>unfold Rep at r;obtain⟨a,vs,rfl,_,q,_⟩:=r;cases e;unfold zj;dsimp only;rw[q]
 |ob o=>cases o with
  |dct=>unfold Rep at r;obtain⟨a,rfl,_,q⟩:=r;cases e;unfold zj;dsimp only;rw[q]
  |exn c=>cases e
theorem JY{ts:List T}{vs:List V}{lo hi:Option Int}(r:qL A X h ts vs):qL A X h (ji ts lo hi) (_L.cutV vs lo hi):=by
 have l:=qE (reps_iff.mp r);unfold ji _L.cutV;rw[l];exact reps_iff.mpr (jg _ (JP _ (reps_iff.mp r)))
end
def qBT(A X:List Nat)(h:AH):Option T->Option V->Prop
 |none,_=>True
 |some t,some w=>Rep A X h t w
 |some _,none=>False
abbrev jH(A X:List Nat)(h:AH):TS->List (Option V)->Prop:=jk (qBT A X h)
section
variable{gl:List T}{A X:List Nat}{h h':AH}{M M':Mem}{σ:TS}{σh:List (Option V)}
theorem J1{i:Nat}{t:T}(r:jH A X h σ σh)(e:σ[i]?=some (some t)):∃w,σh[i]?=some (some w)/\Rep A X h t w:=by
 obtain⟨o,e1,q⟩:=zJ r e;cases o with
 |none=>exact q.elim
 |some w=>exact⟨w,e1,q⟩
theorem zx{A' X':List Nat}(hc:∀(n:Nat) a,A[n]?=some a->A'[n]?=some a)(hn:∀a o,a∉X->h[a]?=some o->a∉X'/\h'[a]?=some o)(r:jH A X h σ σh):jH A' X' h' σ σh:=
 Jc (λx y q=>by
  cases x with
  |none=>trivial
  |some t=>cases y with
   |none=>exact q.elim
   |some w=>exact zO hc hn t q) r
theorem RelM.keepS(R:RelM gl A X h M)(f:Frm A h h')(r:jH A X h σ σh):jH A X h' σ σh:=zx (λ_ _ e=>e) (R.keepN f) r
theorem jo(r:jH A X h σ σh):∀src:List (Option Nat),jH A X h (QB src σ) (_L.inner src σh)
 | []=>rfl
 |none::src=>⟨none,_,rfl,trivial,jo r src⟩
 |some j::src=>by
  refine⟨(σh[j]?).join,_,rfl,?_,jo r src⟩;show qBT A X h (σ[j]?).join _;cases hj:σ[j]? with
  |none=>trivial
  |some o=>cases o with
   |none=>trivial
   |some t=>
    obtain⟨w,e1,q⟩:=J1 r hj;rw[e1];exact q
theorem X3:∀{is:List Nat}{ts:List T}{ws:List V}{σ σ1:TS}{σh:List (Option V)},qC6 is ts σ=some σ1->qL A X h ts ws->jH A X h σ σh->∃σh1,Qv is ws σh=some σh1/\jH A X h σ1 σh1
 | [],[],ws,σ,σ1,σh,e,r,rs=>by unfold qL at r;subst r;cases e;exact⟨σh,rfl,rs⟩
 | [],t::ts,ws,σ,σ1,σh,e,r,rs=>by cases e
 |i::is,[],ws,σ,σ1,σh,e,r,rs=>by cases e
 |i::is,t::ts,ws,σ,σ1,σh,e,r,rs=>by
  unfold qL at r;obtain⟨w,ws',rfl,a,b⟩:=r;exact X3 (is:=is) (show qC6 is ts (σ.set i (some t))=some σ1 from e) b (zy i rs (show qBT A X h (some t) (some w) from a))
theorem jh{g:Tg}{t:T}{w:V}{σ1:TS}(e:zV g t σ=some σ1)(r:Rep A X h t w)(rs:jH A X h σ σh):∃σh1,store g w σh h=some σh1/\jH A X h σ1 σh1:=by
 cases g with
 |name i=>cases e;exact⟨σh.set i (some w),rfl,zy i rs (show qBT A X h (some t) (some w) from r)⟩
 |tup is=>
  cases t with
  |tup ts=>
   unfold Rep at r;obtain⟨a,vs,rfl,_,q,k⟩:=r;obtain⟨σh1,e1,r1⟩:=X3 (show qC6 is ts σ=some σ1 from e) k rs;refine⟨σh1,?_,r1⟩;show (match qU h a with|some xs=>_|none=>_)=_;rw[show qU h a=some vs by unfold qU;rw[q]];exact e1
  |_=>cases e
theorem QS:∀(i:Nat) (ts:List T),(Qt i ts).length=ts.length
 |_,[]=>rfl
 |i,t::ts=>by rw[Qt,List.length_cons,List.length_cons,QS]
theorem JX:∀(i j:Nat) (ts:List T),(Qt i ts)[j]?=(ts[j]?).map λt=>T.tup [.v (.int ((i+j:Nat):Int)),t]
 |_,_,[]=>by simp[Qt]
 |i,0,t::ts=>by simp[Qt]
 |i,j+1,t::ts=>by
  rw[Qt,List.getElem?_cons_succ,List.getElem?_cons_succ,JX (i+1) j ts];rw[show i+1+j=i+(j+1) by omega]
inductive QD(A X:List Nat)(h:AH):Src->List T->ZH->Prop
 |list (a f vs ts):a∉X->h[a]?=some (.lst f vs)->qL A X h ts vs->QD A X h (.list a) ts []
 |cell (n a vs ts):A[n]?=some a->h[a]?=some (.lst false vs)->qL A X h ts vs->QD A X h (.list a) ts [(n,ts)]
 |tupl (a vs ts):a∉X->h[a]?=some (.tup vs)->qL A X h ts vs->QD A X h (.tupl a) ts []
 |rng (lo n):QD A X h (.rng lo n) (qx lo n) []
 |rngd (lo n):QD A X h (.rngd lo n) (ZD lo n) []
 |enum (a ts d):QD A X h (.list a) ts d->QD A X h (.enum a) (Qt 0 ts) d
 |zip (a b ts us d1 d2):QD A X h (.list a) ts d1->QD A X h (.list b) us d2->QD A X h (.zip a b) (List.zipWith (λx y=>T.tup [x,y]) ts us) (d1++d2)
theorem zz{d1 d2:ZH}(e:qk (d1++d2) M=true):qk d1 M=true/\qk d2 M=true:=by
 unfold qk at e ⊢;rw[List.all_append,wB]at e;exact e
theorem W9{s:Src}{ts:List T}{d:ZH}(r:QD A X h s ts d)(hn:∀a o,a∉X->h[a]?=some o->h'[a]?=some o)(R:RelM gl A X h' M')(hd:qk d M'=true):QD A X h' s ts d:=by
 induction r with
 |list a f vs ts q1 q2 q3=>exact .list a f vs ts q1 (hn _ _ q1 q2) (qO (λ_ _ e=>e) (λa o x y=>⟨x,hn a o x y⟩) ts q3)
 |cell n a vs ts q1 q2 q3=>
  obtain⟨ts',vs',e1,e2,e3⟩:=R.at_ n a q1;unfold qk at hd;simp only[List.all_cons,List.all_nil,Bool.and_true]at hd;rw[e1]at hd;have:=jr _ _ hd;subst this;exact .cell n a vs' ts' q1 e2 e3
 |tupl a vs ts q1 q2 q3=>exact .tupl a vs ts q1 (hn _ _ q1 q2) (qO (λ_ _ e=>e) (λa o x y=>⟨x,hn a o x y⟩) ts q3)
 |rng lo n=>exact .rng lo n
 |rngd lo n=>exact .rngd lo n
 |enum a ts d _ i1=>exact .enum a ts d (i1 hd)
 |zip a b ts us d1 d2 _ _ i1 i2=>exact .zip a b ts us d1 d2 (i1 (zz hd).1) (i2 (zz hd).2)
theorem ZN{A' X':List Nat}{s:Src}{ts:List T}{d:ZH}(r:QD A X h s ts d)(hn:∀a o,a∉X->h[a]?=some o->a∉X'/\h'[a]?=some o)(R:RelM gl A' X' h' M')(hd:qk d M'=true)(hA:∀(n:Nat) a,A[n]?=some a->A'[n]?=some a:=by exact λ_ _ e=>e):QD A' X' h' s ts d:=by
 induction r with
 |list a f vs ts q1 q2 q3=>exact .list a f vs ts (hn _ _ q1 q2).1 (hn _ _ q1 q2).2 (qO hA hn ts q3)
 |cell n a vs ts q1 q2 q3=>
  obtain⟨ts',vs',e1,e2,e3⟩:=R.at_ n a (hA _ _ q1);unfold qk at hd;simp only[List.all_cons,List.all_nil,Bool.and_true]at hd;rw[e1]at hd;have:=jr _ _ hd;subst this;exact .cell n a vs' ts' (hA _ _ q1) e2 e3
 |tupl a vs ts q1 q2 q3=>exact .tupl a vs ts (hn _ _ q1 q2).1 (hn _ _ q1 q2).2 (qO hA hn ts q3)
 |rng lo n=>exact .rng lo n
 |rngd lo n=>exact .rngd lo n
 |enum a ts d _ i1=>exact .enum a ts d (i1 hd)
 |zip a b ts us d1 d2 _ _ i1 i2=>exact .zip a b ts us d1 d2 (i1 (zz hd).1) (i2 (zz hd).2)
theorem qr{a:Nat}{ts:List T}{d:ZH}(r:QD A X h (.list a) ts d):∃vs,qH h a=some vs/\qL A X h ts vs:=by
 cases r with
 |list _ f vs _ q1 q2 q3=>exact⟨vs,qK q2,q3⟩
 |cell n _ vs _ q1 q2 q3=>exact⟨vs,qK q2,q3⟩
theorem F5{s:Src}{ts:List T}{d:ZH}(r:QD A X h s ts d):Q8 h s=some ts.length:=by
 cases r with
 |list a f vs ts q1 q2 q3=>show (qH h a).map _=_;rw[qK q2,Option.map_some,qE (reps_iff.mp q3)]
 |cell n a vs ts q1 q2 q3=>show (qH h a).map _=_;rw[qK q2,Option.map_some,qE (reps_iff.mp q3)]
 |tupl a vs ts q1 q2 q3=>show (qU h a).map _=_;rw[show qU h a=some vs by unfold qU;rw[q2],Option.map_some,qE (reps_iff.mp q3)]
 |rng lo n=>show some n=_;simp[qx]
 |rngd lo n=>show some n=_;simp[ZD]
 |enum a ts d r1=>
  obtain⟨vs,e1,k1⟩:=qr r1;show (qH h a).map _=_;rw[e1,Option.map_some,QS,qE (reps_iff.mp k1)]
 |zip a b ts us d1 d2 r1 r2=>
  obtain⟨vs,e1,k1⟩:=qr r1;obtain⟨ws,e2,k2⟩:=qr r2;show (match qH h a,qH h b with|some xs,some ys=>_|_,_=>_)=_;rw[e1,e2,List.length_zipWith,qE (reps_iff.mp k1),qE (reps_iff.mp k2)]
theorem Ji{s:Src}{ts:List T}{d:ZH}(r:QD A X h s ts d):jE h ts.length s=true:=by
 cases r with
 |list a f vs ts q1 q2 q3=>show (match qH h a with|some xs=>_|none=>_)=_;rw[qK q2,qE (reps_iff.mp q3)];simp
 |cell n a vs ts q1 q2 q3=>show (match qH h a with|some xs=>_|none=>_)=_;rw[qK q2,qE (reps_iff.mp q3)];simp
 |tupl a vs ts q1 q2 q3=>show (match qU h a with|some xs=>_|none=>_)=_;rw[show qU h a=some vs by unfold qU;rw[q2],qE (reps_iff.mp q3)];simp
 |rng lo n=>show decide _=_;simp[qx]
 |rngd lo n=>show decide _=_;simp[ZD]
 |enum a ts d r1=>
  obtain⟨vs,e1,k1⟩:=qr r1;show (match qH h a with|some xs=>_|none=>_)=_;rw[e1,QS,qE (reps_iff.mp k1)];simp
 |zip a b ts us d1 d2 r1 r2=>
  obtain⟨vs,e1,k1⟩:=qr r1;obtain⟨ws,e2,k2⟩:=qr r2;show (match qH h a,qH h b with|some xs,some ys=>_|_,_=>_)=_;rw[e1,e2,List.length_zipWith,qE (reps_iff.mp k1),qE (reps_iff.mp k2)];simp;omega
theorem ZK(R:RelM gl A X h M){s:Src}{ts:List T}{d:ZH}(r:QD A X h s ts d){i:Nat}{t:T}(ei:ts[i]?=some t):
  ∃w e,qd h i s=some (w,h++e)/\Rep A X (h++e) t w:=by
 cases r with
 |list a f vs ts q1 q2 q3=>
  obtain⟨w,ew,q⟩:=zJ (reps_iff.mp q3) ei;refine⟨w,[],?_,by rw[wV];exact q⟩;show (match qH h a with|some xs=>_|none=>_)=_;rw[qK q2];dsimp only;rw[ew,wV];rfl
 |cell n a vs ts q1 q2 q3=>
  obtain⟨w,ew,q⟩:=zJ (reps_iff.mp q3) ei;refine⟨w,[],?_,by rw[wV];exact q⟩;show (match qH h a with|some xs=>_|none=>_)=_;rw[qK q2];dsimp only;rw[ew,wV];rfl
 |tupl a vs ts q1 q2 q3=>
  obtain⟨w,ew,q⟩:=zJ (reps_iff.mp q3) ei;refine⟨w,[],?_,by rw[wV];exact q⟩;show (match qU h a with|some xs=>_|none=>_)=_;rw[show qU h a=some vs by unfold qU;rw[q2]];dsimp only;rw[ew,wV];rfl
 |rng lo n=>
  have hi:i<n:=by have:=(wC.mp ei).1;simpa [qx] using this
  refine⟨.int (lo+(i:Int)),[],?_,?_⟩
  ·show (if i<n then _ else _)=_;rw[if_pos hi,wV]
  ·have:t=.v (.int (lo+(i:Int))):=by
    simp only[qx,we,vU hi,Option.map_some,Option.some.injEq]at ei;exact ei.symm
   rw[this];unfold Rep;exact⟨rfl,rfl⟩
 |rngd lo n=>
  have hi:i<n:=by have:=(wC.mp ei).1;simpa [ZD] using this
  refine⟨.int (lo-(i:Int)),[],?_,?_⟩
  ·show (if i<n then _ else _)=_;rw[if_pos hi,wV]
  ·have:t=.v (.int (lo-(i:Int))):=by
    simp only[ZD,we,vU hi,Option.map_some,Option.some.injEq]at ei;exact ei.symm
   rw[this];unfold Rep;exact⟨rfl,rfl⟩
 |enum a ts d r1=>
  obtain⟨vs,e1,k1⟩:=qr r1;rw[JX]at ei;obtain⟨x,ex,rfl⟩:=wA.mp ei;obtain⟨v,ev,qv⟩:=zJ (reps_iff.mp k1) ex;refine⟨.ref h.length,[.tup [.int (i:Int),v]],?_,?_⟩
  ·show (match qH h a with|some xs=>_|none=>_)=_;rw[e1];dsimp only;rw[ev];rfl
  ·have f:=Frm.app A h [O.tup [.int (i:Int),v]];unfold Rep;refine⟨_,[.int (i:Int),v],rfl,λz=>wf _ (R.lt _ z),by simp,?_⟩;unfold qL;refine⟨.int (i:Int),[v],rfl,by unfold Rep;rw[Nat.zero_add];exact⟨rfl,rfl⟩,?_⟩;unfold qL;exact⟨v,[],rfl,R.keep f qv,by unfold qL;rfl⟩
 |zip a b ts us d1 d2 r1 r2=>
  obtain⟨vs,e1,k1⟩:=qr r1;obtain⟨ws,e2,k2⟩:=qr r2;rw[List.getElem?_zipWith]at ei;cases et:ts[i]? with
  |none=>rw[et]at ei;cases ei
  |some x=>
   cases eu:us[i]? with
   |none=>rw[et,eu]at ei;cases ei
   |some y=>
    rw[et,eu]at ei;cases ei;obtain⟨v,ev,qv⟩:=zJ (reps_iff.mp k1) et;obtain⟨w,ew,qw⟩:=zJ (reps_iff.mp k2) eu;refine⟨.ref h.length,[.tup [v,w]],?_,?_⟩
    ·show (match qH h a,qH h b with|some xs,some ys=>_|_,_=>_)=_;rw[e1,e2];dsimp only;rw[ev,ew]
    ·have f:=Frm.app A h [O.tup [v,w]];unfold Rep;refine⟨_,[v,w],rfl,λz=>wf _ (R.lt _ z),by simp,?_⟩;unfold qL;refine⟨v,[w],rfl,R.keep f qv,?_⟩;unfold qL;exact⟨w,[],rfl,R.keep f qw,by unfold qL;rfl⟩
theorem Frs.ofD(R:RelM gl A X h M){kvs:List (Int×V)}(r:Rep A X (h++[O.ob (.dct kvs)]) (.ob (.dct kvs)) (.ref h.length)):Frs gl A X h.length (h++[O.ob (.dct kvs)]) M (.ob (.dct kvs)) (.ref h.length):=
 ⟨[],by unfold Rep at r;unfold FP;exact⟨r,rfl⟩,vO,λa ha=>by simp at ha,by rw[wV];exact R.up _,λ_ _=>⟨h.length,rfl,wF _,R.addX λa=>by simp only[wJ,wU];grind⟩⟩
theorem RelM.setX(R:RelM gl A X h M){D:Nat}(hD:D∈X)(hA:D∉A)(o:O):RelM gl A X (h.set D o) M:=by
 have hn:∀a o',a∉X->h[a]?=some o'->a∉X/\(h.set D o)[a]?=some o':=λa o' x y=>⟨x,by rw[wa (by rintro rfl;exact x hD)];exact y⟩
 refine⟨R.len,R.nd,R.sub,λa ha=>by simpa using R.lt a ha,λn a e=>?_,λg t e=>zO (λ_ _ e=>e) hn t (R.glo g t e)⟩;obtain⟨ts,vs,e1,e2,e3⟩:=R.at_ n a e;exact⟨ts,vs,e1,by rw[wa (by rintro rfl;exact hA (wW e))];exact e2,qO (λ_ _ e=>e) hn ts e3⟩
theorem Sim.bindW{α β α2 β2:Type}{X':List Nat}{h1:AH}{Q:α->β->AH->Mem->Prop}{Q2:α2->β2->AH->Mem->Prop}{r:PR (α×Mem)}{rh:Res (β×AH)}{f:α×Mem->PR (α2×Mem)}{g:β×AH->Res (β2×AH)}
  (hX:∀a∈X,a∈X') (hA:∀a∈A,a∈X) (f0:Frm A h1 h)
  (s:Sim gl A X' h Q r rh) (k:∀x M' y h',Frm A h h'->RelM gl A X' h' M'->Q x y h' M'->Sim gl A X h1 Q2 (f (x,M')) (g (y,h'))):Sim gl A X h1 Q2 (r.bind f) (rh.bind g):=by
 cases r with
 |ok p=>
  obtain⟨x,M'⟩:=p;obtain⟨y,h',rfl,f1,R1,q⟩:=s;exact k x M' y h' f1 R1 q
 |exc c M'=>
  obtain⟨h',rfl,f1,R1⟩:=s;exact⟨h',rfl,f0.trans f1,R1.weak hX hA⟩
 |stuck=>trivial
mutual
theorem qBf{X X':List Nat}{h:AH}:∀(t:T){w:V}{f g:List Nat},FP X h t w f->FP X' h t w g->f=g
 | .v x,w,f,g,p,q=>by unfold FP at p q;rw[p.2,q.2]
 | .cell n,w,f,g,p,q=>by unfold FP at p;exact p.elim
 | .fz ts,w,f,g,p,q=>by unfold FP at p;exact p.elim
 | .ob o,w,f,g,p,q=>by unfold FP at p q;rw[p.2,q.2]
 | .lst ts,w,f,g,p,q=>by
  unfold FP at p q;obtain⟨a,vs,f',rfl,_,e1,k1,rfl⟩:=p;obtain⟨b,us,g',e,_,e2,k2,rfl⟩:=q;cases e;rw[e1]at e2;cases e2;rw[Za ts k1 k2]
 | .tup ts,w,f,g,p,q=>by
  unfold FP at p q;obtain⟨a,vs,rfl,_,e1,k1⟩:=p;obtain⟨b,us,e,_,e2,k2⟩:=q;cases e;rw[e1]at e2;cases e2;exact Za ts k1 k2
theorem Za{X X':List Nat}{h:AH}:∀(ts:List T){ws:List V}{f g:List Nat},FPs X h ts ws f->FPs X' h ts ws g->f=g
 | [],w,f,g,p,q=>by unfold FPs at p q;rw[p.2,q.2]
 |t::ts,w,f,g,p,q=>by
  unfold FPs at p q;obtain⟨v,vs,f1,f2,rfl,a,b,rfl⟩:=p;obtain⟨v',vs',g1,g2,e,a',b',rfl⟩:=q;cases e;rw[qBf t a a',Za ts b b']
end
theorem C7:∀{ts:List T}{ws:List V}{fp f:List Nat}{t:T}{w:V},FPs X h ts ws fp->FP X h t w f->FPs X h (ts++[t]) (ws++[w]) (fp++f)
 | [],ws,fp,f,t,w,p,q=>by
  unfold FPs at p;obtain⟨rfl,rfl⟩:=p;show FPs X h [t] [w] f;unfold FPs;exact⟨w,[],f,[],rfl,q,by unfold FPs;exact⟨rfl,rfl⟩,by simp⟩
 |s::ts,ws,fp,f,t,w,p,q=>by
  unfold FPs at p;obtain⟨v,vs,f1,f2,rfl,a,b,rfl⟩:=p;show FPs X h (s::(ts++[t])) (v::(vs++[w])) _;unfold FPs;exact⟨v,vs++[w],f1,f2++f,rfl,a,C7 b q,by rw[List.append_assoc]⟩
end
section
variable{gl:List T}{A X:List Nat}
theorem Zi{s:Src}{its:List T}{d:ZH}{g:Tg}{c:TS->Mem->PR (Bool×Mem)}{c':List (Option V)->AH->Res (Bool×AH)}{e:TS->Mem->PR (TB×Mem)}{e':List (Option V)->AH->RV}{D:Nat}{h1:AH}
  (hc:∀X h M σ σh,RelM gl A X h M->jH A X h σ σh->Sim gl A X h (λb b' _ _=>b=b') (c σ M) (c' σh h))
  (he:∀X h M σ σh,RelM gl A X h M->jH A X h σ σh->Sim gl A X h (QE gl A X h.length) (e σ M) (e' σh h))
  (hD:h1.length<=D) (hDX:D∉X) (hA:∀a∈A,a∈X):∀(r:List T) (i:Nat) (ys:List T) (ws:List V) (f:Bool) (fp:List Nat) (Y:List Nat) (σ:TS) (σh:List (Option V)) (M:Mem) (h:AH),
   its.drop i=r->i<=its.length->Y=D::X++fp->Frm A h1 h->RelM gl A Y h M->QD A Y h s its d->h[D]?=some (.lst false ws)->qL A (D::X) h ys ws ->
   (f=true->FPs (D::X) h ys ws fp/\fp.Nodup/\∀a∈fp,h1.length<=a)->jH A Y h σ σh ->
   Sim gl A X h1 (QE gl A X h1.length) (ql d g c e r ys f σ M) (Jf s g c' e' D r.length i ws σh h)
 | [],i,ys,ws,f,fp,Y,σ,σh,M,h,hr,hi,hY,fm,R,sr,eD,ry,hf,rs=>by
  have hi':i=its.length:=by
   have:=List.drop_eq_nil_iff.mp hr;omega
  subst hi';have hX:∀a∈X,a∈D::X:=λa z=>wN _ z;have hXY:∀a∈X,a∈Y:=λa z=>by rw[hY];simp[z]
  have hn:∀a o,a∉D::X->h[a]?=some o->a∉X/\h[a]?=some o:=λa o x y=>⟨λz=>x (hX _ z),y⟩
  refine⟨.ref D,h,?_,fm,R.weak hXY hA,?_,λe=>?_⟩
  ·show (if jE h its.length s then _ else _)=_;rw[if_pos (Ji sr)]
  ·show Rep A X h (.lst ys) _;unfold Rep;exact⟨D,ws,rfl,hDX,eD,qO (λ_ _ e=>e) hn ys ry⟩
  ·obtain⟨p,nd,l⟩:=hf e;refine⟨fp++[D],?_,?_,?_,?_⟩
   ·show FP X h (.lst ys) _ _;unfold FP;exact⟨D,ws,fp,rfl,hDX,eD,ze hn ys p,rfl⟩
   ·rw[wt];refine⟨nd,by simp,?_⟩;rintro a ha b hb rfl;simp at hb;exact(jt ys p a ha).1 (by rw[hb];exact wP ..)
   ·intro a ha;rcases wJ.mp ha with z|z
    ·exact l a z
    ·simp at z;omega
   ·refine⟨R.weak (λa z=>?_) λa z=>wO _ (hA a z),New.lst⟩;rw[hY];simp only[wJ,wI,wU]at z ⊢
    grind
 |x::r,i,ys,ws,f,fp,Y,σ,σh,M,h,hr,hi,hY,fm,R,sr,eD,ry,hf,rs=>by
  have hXY:∀a∈X,a∈Y:=λa z=>by rw[hY];simp[z]
  have hDY:D∈Y:=by rw[hY];simp
  have hDXY:∀a∈D::X,a∈Y:=λa z=>by rw[hY];exact wO _ z
  have hDA:D∉A:=λz=>hDX (hA D z);have ex:its[i]?=some x:=by
   have:(its.drop i)[0]?=some x:=by rw[hr];rfl
   rwa [List.getElem?_drop,Nat.add_zero]at this
  have hi2:i+1<=its.length:=(wC.mp ex).1;have hr2:its.drop (i+1)=r:=by
   rw[<-List.drop_drop,hr];rfl
  obtain⟨w,ext,ey,rx⟩:=ZK R sr ex;have fy:Frm A h (h++ext):=Frm.app A h ext;rw[List.length_cons];unfold ql Jf;rw[ey];dsimp only;cases es:zV g x σ with
  |none=>exact Sim.stuck
  |some σ1=>
   obtain⟨σh1,esh,rs1⟩:=jh es rx (R.keepS fy rs);rw[esh];dsimp only;refine Sim.bindW hXY hA (fm.trans fy) (hc _ _ _ _ _ (R.up ext) rs1) ?_;rintro b M2 b' h2 f2 R2 rfl;have k2:Frm A h h2:=fy.trans f2;have eD2:h2[D]?=some (.lst false ws):=(k2.2 D (qM eD) hDA).trans eD;have kN:∀{h':AH},Frm A h h'->∀a o,a∉D::X->h[a]?=some o->a∉D::X/\h'[a]?=some o:=λf' a o x y=>⟨x,(f'.2 a (qM y) λz=>x (wN _ (hA _ z))).trans y⟩
   cases b with
   |true=>
    simp only[if_true];refine Sim.bindW hXY hA (fm.trans k2) (he _ _ _ _ _ R2 ((R.up ext).keepS f2 rs1)) ?_;intro y M3 w3 h3 f3 R3 q3;have k3:Frm A h h3:=k2.trans f3;have eD3:h3[D]?=some (.lst false ws):=(k3.2 D (qM eD) hDA).trans eD;have lw:ys.length=ws.length:=qE (reps_iff.mp ry);dsimp only;by_cases hl:ys.length<lim/\qk d M3=true
    ·rw[if_pos hl,if_pos ⟨eD3,by rw[<-lw];exact hl.1⟩];have hs:∀(Z:List Nat),D∈Z->∀a o,a∉Z->h3[a]?=some o->a∉Z/\(h3.set D (.lst false (ws++[w3])))[a]?=some o:=λZ hZ a o x y=>⟨x,by rw[wa (by rintro rfl;exact x hZ)];exact y⟩
     have hnD:∀a o,a∉D::X->h[a]?=some o->a∉D::X/\(h3.set D (.lst false (ws++[w3])))[a]?=some o:=λa o x y=>hs _ (wP ..) a o x (kN k3 a o x y).2;have ry4:qL A (D::X) (h3.set D (.lst false (ws++[w3]))) (ys++[y.1]) (ws++[w3]):=
      reps_iff.mpr (zU (reps_iff.mp (qO (λ_ _ e=>e) hnD ys ry)) ⟨w3,[],rfl,zO (λ_ _ e=>e) (λa o x y=>hs _ (wP ..) a o x y) _ (zO (λ_ _ e=>e) (λa o x y=>⟨λz=>x (hDXY _ z),y⟩) _ q3.1),rfl⟩)
     obtain⟨fp2,hp2,R3',hlt2⟩:∃fp2:List Nat,(y.2=true->FP Y h3 y.1 w3 fp2/\fp2.Nodup)/\RelM gl A (Y++fp2) h3 M3/\∀a∈fp2,h2.length<=a:=by
      cases hy2:y.2 with
      |true=>
       obtain⟨fp2,a,b,c,d,_⟩:=q3.2 hy2;exact⟨fp2,λ_=>⟨a,b⟩,d,c⟩
      |false=>exact⟨[],(λz=>by cases z),by rw[wV];exact R3,λa ha=>by simp at ha⟩
     have old:∀{Z:List Nat}(_:∀a∈Y,a∈Z) (a:Nat) o,a∉Y->h2[a]?=some o->a∉Y++fp2:=λ_ a o x y=>by
      rw[wJ];rintro(z|z)
      ·exact x z
      ·have:=hlt2 a z;have:=qM y;omega
     have R4:=R3'.setX (wO _ hDY) hDA (.lst false (ws++[w3]));have hnY:∀a o,a∉Y->h[a]?=some o->a∉Y++fp2/\(h3.set D (.lst false (ws++[w3])))[a]?=some o:=λa o x y=>⟨old (λ_ z=>z) a o x (R.keepN k2 a o x y).2,(hs Y hDY a o x (R.keepN k3 a o x y).2).2⟩
     have hn2:∀a o,a∉Y->h2[a]?=some o->a∉Y++fp2/\(h3.set D (.lst false (ws++[w3])))[a]?=some o:=λa o x y=>⟨old (λ_ z=>z) a o x y,(hs Y hDY a o x (R2.keepN f3 a o x y).2).2⟩
     refine Zi hc he hD hDX hA r (i+1) (ys++[y.1]) (ws++[w3]) (f&&y.2) (fp++fp2) (Y++fp2) σ1 σh1 M3 _ hr2 hi2 (by rw[hY,List.append_assoc]) ((fm.trans k3).set (.inr hD) _) R4 ?_ ?_ ry4 ?_ ?_
     ·exact ZN sr hnY R4 hl.2
     ·rw[wj (qM eD3)]
     ·intro ef;rw[wB]at ef;obtain⟨p1,nd1,l1⟩:=hf ef.1;obtain⟨p2,nd2⟩:=hp2 ef.2;refine⟨C7 (ze hnD ys p1) (ZO (λa o x y=>hs _ (wP ..) a o x y) _ (ZO (λa o x y=>⟨λz=>x (hDXY _ z),y⟩) _ p2)),?_,?_⟩
      ·rw[wt];refine⟨nd1,nd2,?_⟩;rintro a ha b hb rfl;exact(C9 y.1 p2 a hb).1 (by rw[hY];exact wQ _ ha)
      ·intro a ha;rcases wJ.mp ha with z|z
       ·exact l1 a z
       ·have:=hlt2 a z;have:=(fm.trans k2).1;omega
     ·exact zx (λ_ _ e=>e) hn2 ((R.up ext).keepS f2 rs1)
    ·rw[if_neg hl];exact Sim.stuck
   |false=>
    dsimp only;simp only[vB,if_false];by_cases hl:qk d M2=true
    ·rw[if_pos hl,if_pos eD2];exact Zi hc he hD hDX hA r (i+1) ys ws f fp Y σ1 σh1 M2 h2 hr2 hi2 hY (fm.trans k2) R2 (W9 sr (λa o x y=>(R.keepN k2 a o x y).2) R2 hl) eD2 (qO (λ_ _ e=>e) (kN k2) ys ry)
      (λef=>by obtain⟨a,b,c⟩:=hf ef;exact⟨ze (kN k2) ys a,b,c⟩) ((R.up ext).keepS f2 rs1)
    ·rw[if_neg hl];exact Sim.stuck
end
section
variable{gl:List T}{A X:List Nat}{h h':AH}{M M':Mem}
theorem e8{X':List Nat}{s:Src}{ts:List T}{d:ZH}(r:QD A X h s ts d)(hn:∀a o,a∉X->h[a]?=some o->a∉X'/\h'[a]?=some o)(hc:∀(n:Nat) a o,A[n]?=some a->h[a]?=some o->h'[a]?=some o):QD A X' h' s ts d:=by
 induction r with
 |list a f vs ts q1 q2 q3=>exact .list a f vs ts (hn _ _ q1 q2).1 (hn _ _ q1 q2).2 (qO (λ_ _ e=>e) hn ts q3)
 |cell n a vs ts q1 q2 q3=>exact .cell n a vs ts q1 (hc n a _ q1 q2) (qO (λ_ _ e=>e) hn ts q3)
 |tupl a vs ts q1 q2 q3=>exact .tupl a vs ts (hn _ _ q1 q2).1 (hn _ _ q1 q2).2 (qO (λ_ _ e=>e) hn ts q3)
 |rng lo n=>exact .rng lo n
 |rngd lo n=>exact .rngd lo n
 |enum a ts d _ i1=>exact .enum a ts d i1
 |zip a b ts us d1 d2 _ _ i1 i2=>exact .zip a b ts us d1 d2 i1 i2
theorem M9{n:Nat}{r:PR (TB×Mem)}{rh:RV}(s:Sim gl A X h (QE gl A X n) r rh):Sim gl A X h (λb b' _ _=>b=b') (pB r) (asB rh):=by
 refine Sim.bind s ?_;intro x M1 w h1 f1 R1 q1;obtain⟨t,fr⟩:=x;dsimp only;split
 ·rename_i b;cases zC q1.1;exact⟨_,h1,rfl,Frm.refl A h1,R1,rfl⟩
 ·exact Sim.stuck
theorem Zy:∀(xs:List V),T.lfs (xs.map .v)=true
 | []=>rfl
 |x::xs=>by show (T.lf (.v x)&&T.lfs (xs.map .v))=true;rw[Zy xs];rfl
theorem K8(lo:Int)(n:Nat):T.lfs (qx lo n)=true:=by
 have e:qx lo n=(jG lo n).map .v:=by unfold qx jG;rw[vM];rfl
 rw[e];exact Zy _
theorem jb{A X:List Nat}{h:AH}:∀{xs:List V},xs.all flat=true->qL A X h (xs.map .v) xs
 | [],_=>by show qL A X h [] [];unfold qL;rfl
 |x::xs,f=>by
  rw[List.all_cons,wB]at f;show qL A X h (.v x::xs.map .v) _;unfold qL;exact⟨x,xs,rfl,by unfold Rep;exact⟨rfl,f.1⟩,jb f.2⟩
theorem G5{α β:Type}{R:α->β->Prop}:∀{xs:List α}{ys:List β},jk R xs ys->jk R xs.reverse ys.reverse
 | [],_,h=>by cases h;rfl
 |x::xs,_,⟨v,vs,rfl,r,h⟩=>by
  rw[vE,vE];exact zU (G5 h) ⟨v,[],rfl,r,rfl⟩
theorem g5(R:RelM gl A X h M){m:Mt}{n p:Nat}{ts:List T}{ws:List V}(ep:A[n]?=some p)(rs:qL A X h ts ws):Sim gl A X h (QE gl A X h.length) (tJ (V8 m n ts M)) (qBM m p ws h):=by
 obtain⟨ts2,vs2,g1,g2,g3⟩:=R.at_ n p ep;have hm:qo h p=some vs2:=by unfold qo;rw[g2]
 have l:=qE (reps_iff.mp g3);cases em:V8 m n ts M with
 |none=>exact Sim.stuck
 |some r=>
  unfold V8 at em;split at em
  ·rename_i y;obtain⟨w,rfl,a⟩:=jZ rs;have fy:=jI a;cases zC a;rw[g1]at em;dsimp only[Option.bind_some]at em;obtain⟨zs,ez,rfl⟩:=wA.mp em;obtain⟨rfl,kk⟩:=Zt g3 ez;show Sim _ _ _ _ _ _ (match qo h p with|some xs=>_|none=>_);rw[hm];dsimp only;rw[if_pos (by rw[fy,kk];rfl)];exact qD R rfl
  ·cases em
theorem qAU(R:RelM gl A X h M){t:T}{w:V}{s:List T×ZH}(r:Rep A X h t w)(e:Zw M t=some s):∃p sh,w=.ref p/\(match h[p]? with|some (.lst _ _)=>Res.ok (Src.list p,h)|some (.tup _)=>.ok (.tupl p,h)|_=>.stuck)=.ok (sh,h)/\QD A X h sh s.1 s.2:=by
 cases t with
 |v x=>cases e
 |cell n=>
  unfold Rep at r;obtain⟨a,ea,rfl⟩:=r;obtain⟨ts,vs,e1,e2,e3⟩:=R.at_ n a ea;unfold Zw at e;dsimp only at e;rw[e1]at e;cases e;exact⟨a,_,rfl,by rw[e2],.cell n a vs ts ea e2 e3⟩
 |fz xs=>unfold Rep at r;obtain⟨a,vs,rfl,q,k,z⟩:=r;cases e;exact⟨a,_,rfl,by rw[k],.list a true vs xs q k z⟩
 |lst xs=>unfold Rep at r;obtain⟨a,vs,rfl,q,k,z⟩:=r;cases e;exact⟨a,_,rfl,by rw[k],.list a false vs xs q k z⟩
 |tup xs=>unfold Rep at r;obtain⟨a,vs,rfl,q,k,z⟩:=r;cases e;exact⟨a,_,rfl,by rw[k],.tupl a vs xs q k z⟩
 |ob o=>cases e
theorem B7(R:RelM gl A X h M){t:T}{w:V}{s:List T×ZH}(r:Rep A X h t w)(e:T5 M t=some s):∃p vs,w=.ref p/\qH h p=some vs/\QD A X h (.list p) s.1 s.2:=by
 cases t with
 |v x=>cases e
 |cell n=>
  unfold Rep at r;obtain⟨a,ea,rfl⟩:=r;obtain⟨ts,vs,e1,e2,e3⟩:=R.at_ n a ea;unfold T5 at e;dsimp only at e;rw[e1]at e;cases e;exact⟨a,_,rfl,qK e2,.cell n a vs ts ea e2 e3⟩
 |fz xs=>unfold Rep at r;obtain⟨a,vs,rfl,q,k,z⟩:=r;cases e;exact⟨a,_,rfl,qK k,.list a true vs xs q k z⟩
 |lst xs=>unfold Rep at r;obtain⟨a,vs,rfl,q,k,z⟩:=r;cases e;exact⟨a,_,rfl,qK k,.list a false vs xs q k z⟩
 |tup xs=>cases e
 |ob o=>cases e
theorem QEs.len{n:Nat}{xs:List TB}{ws:List V}(q:QEs gl A X n xs ws h M):xs.length=ws.length:=by
 have:=qE (reps_iff.mp q.1);simpa using this
end
section
variable{gl:List T}{P:Nat->List T->Mem->PR (TB×Mem)}{F:Nat->List V->AH->RV}
variable (hF:∀f ts ws A X h M,RelM gl A X h M->qL A X h ts ws->Sim gl A X h (QE gl A X h.length) (P f ts M) (F f ws h))
include hF
mutual
theorem qR:∀(e:E) (A X:List Nat) (h:AH) (M:Mem) (σ:TS) (σh:List (Option V)),RelM gl A X h M->jH A X h σ σh->Sim gl A X h (QE gl A X h.length) (pe gl P e σ M) (ev F e σh h)
 | .var i,A,X,h,M,σ,σh,R,rs=>by
  rw[pe,ev];dsimp only;split
  ·rename_i t e;obtain⟨w,ew,r⟩:=J1 rs e;rw[ew];exact Zn R r
  ·exact Sim.stuck
 | .dnew,A,X,h,M,σ,σh,R,rs=>by
  unfold pe ev;have r:Rep A X (h++[O.ob (.dct [])]) (.ob (.dct [])) (.ref h.length):=by
   unfold Rep;exact⟨h.length,rfl,λz=>by have:=R.lt _ z;omega,by simp⟩
  exact⟨_,_,rfl,Frm.app A h _,R.up _,r,λ_=>Frs.ofD R r⟩
 | .cst v,A,X,h,M,σ,σh,R,rs=>by
  rw[pe,ev];dsimp only;split
  ·rename_i e;exact qD R e
  ·exact Sim.stuck
 | .glob g,A,X,h,M,σ,σh,R,rs=>by
  rw[pe,ev];dsimp only;split
  ·rename_i t e;exact Zn R (R.glo g t e)
  ·exact Sim.stuck
 | .bin op a b,A,X,h,M,σ,σh,R,rs=>by
  rw[pe,ev];dsimp only;refine Sim.bind (qR a A X h M σ σh R rs) ?_;intro x M1 v h1 f1 R1 q1;dsimp only;refine Sim.bind (qR b A X h1 M1 σ σh R1 (R.keepS f1 rs)) ?_;intro y M2 w h2 f2 R2 q2;dsimp only;exact tM λr er=>(qBN R2 er (R1.keep f2 q1.1) q2.1).le (wM f1.1 f2.1)
 | .neg a,A,X,h,M,σ,σh,R,rs=>by
  rw[pe,ev];dsimp only;refine Sim.bind (qR a A X h M σ σh R rs) ?_;intro x M1 v h1 f1 R1 q1;dsimp only;obtain⟨t,fr⟩:=x;dsimp only;split
  ·cases zC q1.1;exact qD R1 rfl
  ·exact Sim.stuck
 | .cmp op a b,A,X,h,M,σ,σh,R,rs=>by
  rw[pe,ev];dsimp only;refine Sim.bind (qR a A X h M σ σh R rs) ?_;intro x M1 v h1 f1 R1 q1;dsimp only;refine Sim.bind (qR b A X h1 M1 σ σh R1 (R.keepS f1 rs)) ?_;intro y M2 w h2 f2 R2 q2;dsimp only;refine tM λr er=>?_;unfold h9;rw[ju R2 (R1.keep f2 q1.1) q2.1 er];exact qD R2 rfl
 | .cmp2 o1 o2 a b c,A,X,h,M,σ,σh,R,rs=>by
  rw[pe,ev];dsimp only;refine Sim.bind (qR a A X h M σ σh R rs) ?_;intro x M1 v h1 f1 R1 q1;dsimp only;refine Sim.bind (qR b A X h1 M1 σ σh R1 (R.keepS f1 rs)) ?_;intro y M2 w h2 f2 R2 q2;dsimp only;refine tM λr er=>?_;rw[ju R2 (R1.keep f2 q1.1) q2.1 er];cases r with
  |true=>
   simp only[if_true];refine Sim.bind (qR c A X h2 M2 σ σh R2 (R1.keepS f2 (R.keepS f1 rs))) ?_;intro z M3 u h3 f3 R3 q3;dsimp only;refine tM λr er=>?_;unfold h9;rw[ju R3 (R2.keep f3 q2.1) q3.1 er];exact qD R3 rfl
  |false=>exact qD R2 rfl
 | .cmp3 o1 o2 o3 a b c d,A,X,h,M,σ,σh,R,rs=>by
  rw[pe,ev];dsimp only;refine Sim.bind (qR a A X h M σ σh R rs) ?_;intro x M1 v h1 f1 R1 q1;dsimp only;refine Sim.bind (qR b A X h1 M1 σ σh R1 (R.keepS f1 rs)) ?_;intro y M2 w h2 f2 R2 q2;dsimp only;refine tM λr er=>?_;rw[ju R2 (R1.keep f2 q1.1) q2.1 er];cases r with
  |true=>
   simp only[if_true];refine Sim.bind (qR c A X h2 M2 σ σh R2 (R1.keepS f2 (R.keepS f1 rs))) ?_;intro z M3 u h3 f3 R3 q3;dsimp only;refine tM λr er=>?_;rw[ju R3 (R2.keep f3 q2.1) q3.1 er];cases r with
   |true=>
    simp only[if_true];refine Sim.bind (qR d A X h3 M3 σ σh R3 (R2.keepS f3 (R1.keepS f2 (R.keepS f1 rs)))) ?_;intro z4 M4 u4 h4 f4 R4 q4;dsimp only;refine tM λr er=>?_;unfold h9;rw[ju R4 (R3.keep f4 q3.1) q4.1 er];exact qD R4 rfl
   |false=>exact qD R3 rfl
  |false=>exact qD R2 rfl
 | .and a b,A,X,h,M,σ,σh,R,rs=>by
  rw[pe,ev];dsimp only;refine Sim.bind (M9 (qR a A X h M σ σh R rs)) ?_;rintro x M1 v h1 f1 R1 rfl;dsimp only;cases x with
  |true=>simp only[if_true];exact(qR b A X h1 M1 σ σh R1 (R.keepS f1 rs)).le f1.1
  |false=>exact qD R1 rfl
 | .or a b,A,X,h,M,σ,σh,R,rs=>by
  rw[pe,ev];dsimp only;refine Sim.bind (M9 (qR a A X h M σ σh R rs)) ?_;rintro x M1 v h1 f1 R1 rfl;dsimp only;cases x with
  |false=>simp only[vB,if_false];exact(qR b A X h1 M1 σ σh R1 (R.keepS f1 rs)).le f1.1
  |true=>exact qD R1 rfl
 | .not a,A,X,h,M,σ,σh,R,rs=>by
  rw[pe,ev];dsimp only;refine Sim.bind (M9 (qR a A X h M σ σh R rs)) ?_;rintro x M1 v h1 f1 R1 rfl;dsimp only;exact qD R1 rfl
 | .call f as,A,X,h,M,σ,σh,R,rs=>by
  rw[pe,ev];dsimp only;refine Sim.bind (ja as A X h M σ σh R rs) ?_;intro x M1 v h1 f1 R1 q1;dsimp only;exact(hF f _ _ A X h1 M1 R1 q1.1).nx.le f1.1
 | .blt f as,A,X,h,M,σ,σh,R,rs=>by
  rw[pe,ev];dsimp only;refine Sim.bind (ja as A X h M σ σh R rs) ?_;intro x M1 v h1 f1 R1 q1;dsimp only;exact tM λr er=>(qAT R1 q1.1 er).le f1.1
 | .isi a ts,A,X,h,M,σ,σh,R,rs=>by
  rw[pe,ev];dsimp only;refine Sim.bind (qR a A X h M σ σh R rs) ?_;intro x M1 v h1 f1 R1 q1;dsimp only;refine tM λr er=>?_;rw[Y9 R1 q1.1 er];exact qD R1 rfl
 | .idx a b,A,X,h,M,σ,σh,R,rs=>by
  rw[pe,ev];dsimp only;refine Sim.bind (qR a A X h M σ σh R rs) ?_;intro x M1 v h1 f1 R1 q1;dsimp only;refine Sim.bind (qR b A X h1 M1 σ σh R1 (R.keepS f1 rs)) ?_;intro y M2 w h2 f2 R2 q2;dsimp only;refine tM λr er=>?_;obtain⟨ty,fy⟩:=y;unfold QH at er;dsimp only at er;split at er
  ·rename_i i;cases zC q2.1;obtain⟨xs,e1,er⟩:=wH.mp er;obtain⟨j,e2,er⟩:=wH.mp er;obtain⟨t,e3,rfl⟩:=wA.mp er;obtain⟨p,vs,rfl,k1,k2⟩:=J0 R2 (R1.keep f2 q1.1) e1;obtain⟨u,e4,k3⟩:=zJ (reps_iff.mp k2) e3;dsimp only;rw[k1];dsimp only;rw[<-qE (reps_iff.mp k2),e2];dsimp only[Option.bind_some];rw[e4];exact Zn R2 k3
  ·cases er
 | .rev a,A,X,h,M,σ,σh,R,rs=>by
  rw[pe,ev];dsimp only;refine Sim.bind (qR a A X h M σ σh R rs) ?_;intro x M1 v h1 f1 R1 q1;dsimp only;refine tM λxs ex=>?_;obtain⟨p,vs,f,rfl,k1,k2⟩:=zD R1 q1.1 ex;show Sim _ _ _ _ _ _ (match qH h1 p with|some xs=>_|none=>_);rw[qK k1];exact(Jz R1 (reps_iff.mpr (G5 (reps_iff.mp k2)))).le f1.1
 | .sl a lo hi,A,X,h,M,σ,σh,R,rs=>by
  rw[pe,ev];dsimp only;refine Sim.bind (qR a A X h M σ σh R rs) ?_;intro x M1 v h1 f1 R1 q1;dsimp only;refine Sim.bind (ja lo A X h1 M1 σ σh R1 (R.keepS f1 rs)) ?_;intro y M2 w h2 f2 R2 q2;dsimp only;refine Sim.bind (ja hi A X h2 M2 σ σh R2 (R1.keepS f2 (R.keepS f1 rs))) ?_;intro z M3 u h3 f3 R3 q3;dsimp only;refine tM λxs ex=>tM λl el=>tM λm em=>?_;rw[jM (R2.keeps f3 q2.1) el,jM q3.1 em];have rp:=R2.keep f3 (R1.keep f2 q1.1);refine tM λr er=>?_;refine Sim.le ?_ (wM f1.1 (wM f2.1 f3.1));obtain⟨x1,x2⟩:=x;dsimp only at ex er rp ⊢;cases x1 with
  |v x=>cases ex
  |ob o=>cases ex
  |cell n=>cases er;obtain⟨p,vs,f,rfl,k1,k2⟩:=zD R3 rp ex;dsimp only;rw[qK k1];exact Jz R3 (JY k2)
  |fz xs=>cases er;obtain⟨p,vs,f,rfl,k1,k2⟩:=zD R3 rp ex;dsimp only;rw[qK k1];exact Jz R3 (JY k2)
  |lst xs=>cases er;obtain⟨p,vs,f,rfl,k1,k2⟩:=zD R3 rp ex;dsimp only;rw[qK k1];exact Jz R3 (JY k2)
  |tup ts=>
   cases ex;unfold Rep at rp;obtain⟨a,vs,rfl,_,q,kk⟩:=rp;have ln:=qE (reps_iff.mp kk);dsimp only;rw[show qH h3 a=none by unfold qH;rw[q],show qU h3 a=some vs by unfold qU;rw[q]];dsimp only;unfold Y1 at er;dsimp only at er;rw[ln]at er;split at er
   ·cases er
   ·rename_i hw;cases er;rw[if_neg hw];exact ZT R3 (JY kk) λe=>Frss.of_lf R3 (JY kk) e
 | .lst as,A,X,h,M,σ,σh,R,rs=>by
  rw[pe,ev];dsimp only;refine Sim.bind (ja as A X h M σ σh R rs) ?_;intro x M1 v h1 f1 R1 q1;dsimp only;rw[<-q1.len];split
  ·exact QU R1 q1.1 f1.1 q1.2
  ·exact Sim.stuck
 | .tup as,A,X,h,M,σ,σh,R,rs=>by
  rw[pe,ev];dsimp only;refine Sim.bind (ja as A X h M σ σh R rs) ?_;intro x M1 v h1 f1 R1 q1;dsimp only;rw[<-q1.len];split
  ·exact ZT R1 q1.1 q1.2
  ·exact Sim.stuck
 | .comp it src g c e,A,X,h,M,σ,σh,R,rs=>by
  rw[pe,ev];dsimp only;refine Sim.bind (v4 it A X h M σ σh R rs) ?_;intro s M1 sh h1 f1 R1 q1;dsimp only;have hn:∀a o,a∉X->h1[a]?=some o->a∉h1.length::X/\(h1++[O.lst false []])[a]?=some o:=λa o x y=>⟨by
   rw[wI];rintro(z|z)
   ·have:=qM y;omega
   ·exact x z,by rw[wD (qM y)];exact y⟩
  have sr:QD A (h1.length::X) (h1++[O.lst false []]) sh s.1 s.2:=e8 q1 hn λn a o _ y=>by rw[wD (qM y)];exact y
  rw[F5 sr];dsimp only;refine(Zi (its:=s.1) (λX h M σ σh R rs=>qDA c A X h M σ σh R rs) (λX h M σ σh R rs=>qR e A X h M σ σh R rs) (wF h1.length) (λz=>wf _ (R1.lt _ z)) R1.sub s.1 0 [] [] true [] (h1.length::X) _ _ M1 _ rfl (wu _) (by simp) (Frm.app A h1 _) (R1.addX λa=>wI) sr (by simp) (by unfold qL;rfl) ?_ ?_).le f1.1
  ·exact λ_=>⟨by unfold FPs;exact⟨rfl,rfl⟩,vO,λa ha=>by simp at ha⟩
  ·exact zx (λ_ _ e=>e) hn (jo (R.keepS f1 rs) src)
 | .app a b,A,X,h,M,σ,σh,R,rs=>by
  rw[pe,ev];dsimp only;refine Sim.bind (qR a A X h M σ σh R rs) ?_;intro x M1 v h1 f1 R1 q1;dsimp only;obtain⟨t,fr⟩:=x;dsimp only;split
  ·rename_i n;have q:=q1.1;unfold Rep at q;obtain⟨p,ep,rfl⟩:=q;obtain⟨ts,vs,e1,e2,e3⟩:=R1.at_ n p ep;dsimp only;rw[qK e2];dsimp only;refine Sim.bind (qR b A X h1 M1 σ σh R1 (R.keepS f1 rs)) ?_;intro y M2 w h2 f2 R2 q2;dsimp only;obtain⟨ts2,vs2,g1,g2,g3⟩:=R2.at_ n p ep;rw[g1,show qo h2 p=some vs2 by unfold qo;rw[g2]];dsimp only;rw[<-qE (reps_iff.mp g3)];split
   ·have r1:jk (Rep A X h2) [y.1] [w]:=⟨w,[],rfl,q2.1,rfl⟩
    obtain⟨R4,f4⟩:=R2.put ep (reps_iff.mpr (zU (reps_iff.mp g3) r1));have r:Rep A X (h2.set p (.lst false (vs2++[w]))) (.v .non) .non:=by unfold Rep;exact⟨rfl,rfl⟩
    exact⟨.non,_,rfl,f4,R4,r,λ_=>Frs.of_lf R4 r rfl⟩
   ·exact Sim.stuck
  ·exact Sim.stuck
 | .sset a,A,X,h,M,σ,σh,R,rs=>by
  rw[pe,ev];dsimp only;refine Sim.bind (qR a A X h M σ σh R rs) ?_;intro x M1 v h1 f1 R1 q1;dsimp only;obtain⟨t,fr⟩:=x;dsimp only;split
  ·rename_i is eis;obtain⟨xs,ex,ei⟩:=wH.mp eis;obtain⟨b,vs,f,rfl,g1,g2⟩:=zD R1 q1.1 ex;dsimp only;rw[qK g1];dsimp only;rw[jM g2 ei];dsimp only;split
   ·have rr:=QZ (A:=A) (X:=X) (h:=h1) (zo (uniq is));exact QU R1 rr f1.1 λe=>Frss.of_lf R1 rr (ZS _)
   ·exact Sim.stuck
  ·exact Sim.stuck
 | .nset a,A,X,h,M,σ,σh,R,rs=>by
  rw[pe,ev];dsimp only;refine Sim.bind (qR a A X h M σ σh R rs) ?_;intro x M1 v h1 f1 R1 q1;dsimp only;obtain⟨t,fr⟩:=x;dsimp only;split
  ·rename_i is eis;obtain⟨xs,ex,ei⟩:=wH.mp eis;obtain⟨b,vs,f,rfl,g1,g2⟩:=zD R1 q1.1 ex;dsimp only;rw[qK g1];dsimp only;rw[jM g2 ei];dsimp only;split
   ·exact(qD R1 rfl).le f1.1
   ·exact Sim.stuck
  ·exact Sim.stuck
 | .lrng a,A,X,h,M,σ,σh,R,rs=>by
  rw[pe,ev];dsimp only;refine Sim.bind (qR a A X h M σ σh R rs) ?_;intro x M1 v h1 f1 R1 q1;dsimp only;obtain⟨t,fr⟩:=x;dsimp only;split
  ·rename_i j;cases zC q1.1;dsimp only;split
   ·have r:qL A X h1 (qx 0 j.toNat) (jG 0 j.toNat):=by
     have e:qx 0 j.toNat=(jG 0 j.toNat).map .v:=by unfold qx jG;rw[vM];rfl
     rw[e];exact jb (by simp[jG,flat])
    exact(QU (f:=true) R1 r (wF _) λ_=>Frss.of_lf R1 r (K8 0 _)).le f1.1
   ·exact Sim.stuck
  ·exact Sim.stuck
 | .meth m a as,A,X,h,M,σ,σh,R,rs=>by
  rw[pe,ev];dsimp only;refine Sim.bind (qR a A X h M σ σh R rs) ?_;intro x M1 v h1 f1 R1 q1;dsimp only;obtain⟨t,fr⟩:=x;dsimp only;split
  ·rename_i n;have q:=q1.1;unfold Rep at q;obtain⟨p,ep,rfl⟩:=q;obtain⟨ts,vs,e1,e2,e3⟩:=R1.at_ n p ep;dsimp only;rw[qK e2];dsimp only;refine Sim.bind (ja as A X h1 M1 σ σh R1 (R.keepS f1 rs)) ?_;intro y M2 w h2 f2 R2 q2;dsimp only;exact(g5 R2 ep q2.1).le (wM f1.1 f2.1)
  ·exact Sim.stuck
theorem ja:∀(e:Es) (A X:List Nat) (h:AH) (M:Mem) (σ:TS) (σh:List (Option V)),RelM gl A X h M->jH A X h σ σh->Sim gl A X h (QEs gl A X h.length) (pes gl P e σ M) (evs F e σh h)
 | .nil,A,X,h,M,σ,σh,R,rs=>by
  rw[pes,evs];have r:qL A X h [] []:=by unfold qL;rfl
  exact⟨[],h,rfl,Frm.refl A h,R,r,λ_=>Frss.of_lf R r rfl⟩
 | .cons a as,A,X,h,M,σ,σh,R,rs=>by
  rw[pes,evs];dsimp only;refine Sim.bind (qR a A X h M σ σh R rs) ?_;intro x M1 v h1 f1 R1 q1;dsimp only;obtain⟨fp1,hp1,R1',hlt1⟩:∃fp1:List Nat,(x.2=true->FP X h1 x.1 v fp1/\fp1.Nodup)/\RelM gl A (X++fp1) h1 M1/\∀a∈fp1,h.length<=a:=by
   cases hx2:x.2 with
   |true=>
    obtain⟨fp2,a,b,c,d,_⟩:=q1.2 hx2;exact⟨fp2,λ_=>⟨a,b⟩,d,c⟩
   |false=>exact⟨[],(λz=>by cases z),by rw[wV];exact R1,λa ha=>by simp at ha⟩
  have hX:∀a∈X,a∈X++fp1:=λa z=>wO _ z;have hn:∀a o,a∉X->h[a]?=some o->a∉X++fp1/\h1[a]?=some o:=λa o x y=>⟨by
   rw[wJ];rintro(z|z)
   ·exact x z
   ·have:=hlt1 a z;have:=qM y;omega,(R.keepN f1 a o x y).2⟩
  refine Sim.bindW hX R.sub (Frm.refl A h1) (ja as A (X++fp1) h1 M1 σ σh R1' (zx (λ_ _ e=>e) hn rs)) ?_;intro y M2 w h2 f2 R2 q2;dsimp only;refine⟨_,h2,rfl,f2,R2.weak hX R.sub,?_,λe=>?_⟩
  ·show qL A X h2 (x.1::y.map (·.1)) (v::w);unfold qL;exact⟨v,w,rfl,R1.keep f2 q1.1,qO (λ_ _ e=>e) (λa o x y=>⟨λz=>x (hX _ z),y⟩) _ q2.1⟩
  ·rw[List.all_cons,wB]at e;obtain⟨a1,b1⟩:=hp1 e.1;obtain⟨fp2,a2,b2,c2,d2⟩:=q2.2 e.2;refine⟨fp1++fp2,?_,?_,?_,by rw[<-List.append_assoc];exact d2⟩
   ·show FPs X h2 (x.1::y.map (·.1)) (v::w) _;unfold FPs;exact⟨v,w,fp1,fp2,rfl,ZO (R1.keepN f2) _ a1,ze (λa o x y=>⟨λz=>x (hX _ z),y⟩) _ a2,rfl⟩
   ·rw[wt];refine⟨b1,b2,?_⟩;rintro a ha b hb rfl;exact(jt _ a2 a hb).1 (wQ _ ha)
   ·intro a ha;rcases wJ.mp ha with z|z
    ·exact hlt1 a z
    ·exact wM f1.1 (c2 a z)
theorem qDA:∀(e:Es) (A X:List Nat) (h:AH) (M:Mem) (σ:TS) (σh:List (Option V)),RelM gl A X h M->jH A X h σ σh->Sim gl A X h (λb b' _ _=>b=b') (pec gl P e σ M) (evc F e σh h)
 | .nil,A,X,h,M,σ,σh,R,rs=>by
  rw[pec,evc];exact⟨true,h,rfl,Frm.refl A h,R,rfl⟩
 | .cons a as,A,X,h,M,σ,σh,R,rs=>by
  rw[pec,evc];exact M9 (qR a A X h M σ σh R rs)
theorem v4:∀(e:Itr) (A X:List Nat) (h:AH) (M:Mem) (σ:TS) (σh:List (Option V)),RelM gl A X h M->jH A X h σ σh->Sim gl A X h (λs sh h' _=>QD A X h' sh s.1 s.2) (pei gl P e σ M) (evi F e σh h)
 | .list a,A,X,h,M,σ,σh,R,rs=>by
  rw[pei,evi];dsimp only;refine Sim.bind (qR a A X h M σ σh R rs) ?_;intro x M1 v h1 f1 R1 q1;dsimp only;refine tM λs es=>?_;obtain⟨p,sh,rfl,e1,e2⟩:=qAU R1 q1.1 es;exact⟨sh,h1,e1,Frm.refl A h1,R1,e2⟩
 | .rng1 a,A,X,h,M,σ,σh,R,rs=>by
  rw[pei,evi];dsimp only;refine Sim.bind (qR a A X h M σ σh R rs) ?_;intro x M1 v h1 f1 R1 q1;dsimp only;obtain⟨t,fr⟩:=x;dsimp only;split
  ·cases zC q1.1;dsimp only;split
   ·exact⟨_,h1,rfl,Frm.refl A h1,R1,.rng 0 _⟩
   ·exact Sim.stuck
  ·exact Sim.stuck
 | .rng2 a b,A,X,h,M,σ,σh,R,rs=>by
  rw[pei,evi];dsimp only;refine Sim.bind (qR a A X h M σ σh R rs) ?_;intro x M1 v h1 f1 R1 q1;dsimp only;refine Sim.bind (qR b A X h1 M1 σ σh R1 (R.keepS f1 rs)) ?_;intro y M2 w h2 f2 R2 q2;dsimp only;obtain⟨t,fr⟩:=x;obtain⟨u,fu⟩:=y;dsimp only;split
  ·cases zC q1.1;cases zC q2.1;dsimp only;split
   ·exact⟨_,h2,rfl,Frm.refl A h2,R2,.rng _ _⟩
   ·exact Sim.stuck
  ·exact Sim.stuck
 | .zip a b,A,X,h,M,σ,σh,R,rs=>by
  rw[pei,evi];dsimp only;refine Sim.bind (qR a A X h M σ σh R rs) ?_;intro x M1 v h1 f1 R1 q1;dsimp only;refine Sim.bind (qR b A X h1 M1 σ σh R1 (R.keepS f1 rs)) ?_;intro y M2 w h2 f2 R2 q2;dsimp only;refine tM λs es=>tM λt et=>?_;obtain⟨p,vs,rfl,e1,e2⟩:=B7 R2 (R1.keep f2 q1.1) es;obtain⟨q,us,rfl,e3,e4⟩:=B7 R2 q2.1 et;dsimp only;rw[e1,e3];exact⟨_,h2,rfl,Frm.refl A h2,R2,.zip p q _ _ _ _ e2 e4⟩
 | .enum a,A,X,h,M,σ,σh,R,rs=>by
  rw[pei,evi];dsimp only;refine Sim.bind (qR a A X h M σ σh R rs) ?_;intro x M1 v h1 f1 R1 q1;dsimp only;refine tM λs es=>?_;obtain⟨p,vs,rfl,e1,e2⟩:=B7 R1 q1.1 es;dsimp only;rw[e1];exact⟨_,h1,rfl,Frm.refl A h1,R1,.enum p _ _ e2⟩
 | .rng3 a b,A,X,h,M,σ,σh,R,rs=>by
  rw[pei,evi];dsimp only;refine Sim.bind (qR a A X h M σ σh R rs) ?_;intro x M1 v h1 f1 R1 q1;dsimp only;refine Sim.bind (qR b A X h1 M1 σ σh R1 (R.keepS f1 rs)) ?_;intro y M2 w h2 f2 R2 q2;dsimp only;obtain⟨t,fr⟩:=x;obtain⟨u,fu⟩:=y;dsimp only;split
  ·cases zC q1.1;cases zC q2.1;dsimp only;split
   ·exact⟨_,h2,rfl,Frm.refl A h2,R2,.rngd _ _⟩
   ·exact Sim.stuck
  ·exact Sim.stuck
end
end
mutual
theorem V2{X Af Xf:List Nat}{h:AH}(hX:∀a o,(∀vs,o≠O.lst false vs)->h[a]?=some o->a∉X->a∉Xf):∀(t:T) (n:Nat){w:V}{fp:List Nat},FP X h t w fp->(∀(k:Nat) a,fp[k]?=some a->Af[n+k]?=some a) ->
  (thaw n t).2.length=fp.length/\Rep Af Xf h (thaw n t).1 w/\∀(k:Nat) ts',(thaw n t).2[k]?=some ts'->∃a vs,fp[k]?=some a/\h[a]?=some (.lst false vs)/\qL Af Xf h ts' vs
 | .v x,n,w,fp,p,ha=>by unfold FP at p;obtain⟨p1,rfl⟩:=p;rw[show thaw n (.v x)=(.v x,[]) by simp[thaw]];exact⟨rfl,by unfold Rep;exact p1,λk ts' e=>by simp at e⟩
 | .cell _,n,w,fp,p,ha=>by unfold FP at p;exact p.elim
 | .ob o,n,w,fp,p,ha=>by unfold FP at p;obtain⟨⟨a,rfl,q1,q2⟩,rfl⟩:=p;rw[show thaw n (.ob o)=(.ob o,[]) by simp[thaw]];exact⟨rfl,by unfold Rep;exact⟨a,rfl,hX a _ (by intro _ z;cases z) q2 q1,q2⟩,λk ts' e=>by simp at e⟩
 | .fz _,n,w,fp,p,ha=>by unfold FP at p;exact p.elim
 | .lst ts,n,w,fp,p,ha=>by
  unfold FP at p;obtain⟨a,vs,f,rfl,q1,q2,q3,rfl⟩:=p;obtain⟨l,r,c⟩:=ZR hX ts n q3 (λk a e=>ha k a (by rw[wD (wC.mp e).1];exact e));rw[thaw];refine⟨by simp[l],?_,λk ts' e=>?_⟩
  ·show Rep Af Xf h (.cell _) _;unfold Rep;refine⟨a,ha _ a ?_,rfl⟩;rw[l,wS (wF _),Nat.sub_self];rfl
  ·dsimp only at e;by_cases hk:k<f.length
   ·rw[wD (by rw[l];exact hk)]at e;obtain⟨b,us,e1,e2,e3⟩:=c k ts' e;exact⟨b,us,by rw[wD hk];exact e1,e2,e3⟩
   ·rw[wS (by rw[l];omega),l]at e;have hk2:k-f.length=0:=by
     have:=(wC.mp e).1;simp at this;omega
    rw[hk2]at e;simp at e;subst e;exact⟨a,vs,by rw[wS (by omega),hk2];rfl,q2,r⟩
 | .tup ts,n,w,fp,p,ha=>by
  unfold FP at p;obtain⟨a,vs,rfl,q1,q2,q3⟩:=p;obtain⟨l,r,c⟩:=ZR hX ts n q3 ha;rw[thaw];refine⟨l,?_,c⟩;show Rep Af Xf h (.tup _) _;unfold Rep;exact⟨a,vs,rfl,hX a _ (by intro _ z;cases z) q2 q1,q2,r⟩
theorem ZR{X Af Xf:List Nat}{h:AH}(hX:∀a o,(∀vs,o≠O.lst false vs)->h[a]?=some o->a∉X->a∉Xf):∀(ts:List T) (n:Nat){ws:List V}{fp:List Nat},FPs X h ts ws fp->(∀(k:Nat) a,fp[k]?=some a->Af[n+k]?=some a) ->
  (Ja n ts).2.length=fp.length/\qL Af Xf h (Ja n ts).1 ws/\∀(k:Nat) ts',(Ja n ts).2[k]?=some ts'->∃a vs,fp[k]?=some a/\h[a]?=some (.lst false vs)/\qL Af Xf h ts' vs
 | [],n,ws,fp,p,ha=>by unfold FPs at p;obtain⟨rfl,rfl⟩:=p;rw[Ja];exact⟨rfl,by unfold qL;rfl,λk ts' e=>by simp at e⟩
 |t::ts,n,ws,fp,p,ha=>by
  unfold FPs at p;obtain⟨v,vs,f1,f2,rfl,q1,q2,rfl⟩:=p;obtain⟨l1,r1,c1⟩:=V2 hX t n q1 (λk a e=>ha k a (by rw[wD (wC.mp e).1];exact e));obtain⟨l2,r2,c2⟩:=ZR hX ts (n+(thaw n t).2.length) q2 (λk a e=>by
   have:=ha (f1.length+k) a (by rw[wS (by omega),Nat.add_sub_cancel_left];exact e);rw[l1,Nat.add_assoc];exact this)
  rw[Ja];refine⟨by dsimp only;rw[wX,wX,l2,l1],?_,λk ts' e=>?_⟩
  ·show qL Af Xf h (_::_) _;unfold qL;exact⟨v,vs,rfl,r1,r2⟩
  ·dsimp only at e;by_cases hk:k<f1.length
   ·rw[wD (by rw[l1];exact hk)]at e;obtain⟨b,us,e1,e2,e3⟩:=c1 k ts' e;exact⟨b,us,by rw[wD hk];exact e1,e2,e3⟩
   ·rw[wS (by rw[l1];omega)]at e;obtain⟨b,us,e1,e2,e3⟩:=c2 _ ts' e;rw[l1]at e1;exact⟨b,us,by rw[wS (by omega)];exact e1,e2,e3⟩
end
theorem RelM.thaw{gl:List T}{A X fp:List Nat}{h:AH}{M:Mem}{t:T}{w:V}(R:RelM gl A (X++fp) h M)(hA:∀a∈A,a∈X)(p:FP X h t w fp)(nd:fp.Nodup):
  RelM gl (A++fp) (X++fp) h (M++(_P.thaw M.length t).2)/\Rep (A++fp) (X++fp) h (_P.thaw M.length t).1 w:=by
 have hX:∀a o,(∀vs,o≠O.lst false vs)->h[a]?=some o->a∉X->a∉X++fp:=λa o hno e x=>by
  rw[wJ];rintro(z|z)
  ·exact x z
  ·obtain⟨_,us,e2⟩:=C9 t p a z;rw[e]at e2;cases e2;exact hno _ rfl
 obtain⟨l,r,c⟩:=V2 (Af:=A++fp) hX t M.length p (λk a e=>by rw[<-R.len,wS (by omega),Nat.add_sub_cancel_left];exact e);refine⟨⟨by simp[R.len,l],?_,?_,R.lt,λn a e=>?_,λg t e=>?_⟩,r⟩
 ·rw[wt];exact⟨R.nd,nd,by rintro a ha b hb rfl;exact(C9 t p a hb).1 (hA a ha)⟩
 ·intro a ha;rcases wJ.mp ha with z|z
  ·exact wO _ (hA a z)
  ·exact wQ _ z
 ·by_cases hn:n<A.length
  ·rw[wD hn]at e;obtain⟨ts,vs,e1,e2,e3⟩:=R.at_ n a e;exact⟨ts,vs,by rw[wD (by rw[<-R.len];exact hn)];exact e1,e2,qO (λk b eb=>by rw[wD (wC.mp eb).1];exact eb) (λa o x y=>⟨x,y⟩) ts e3⟩
  ·rw[wS (by omega)]at e;have hk:n-A.length<(_P.thaw M.length t).2.length:=by rw[l];exact(wC.mp e).1
   obtain⟨b,us,e1,e2,e3⟩:=c (n-A.length) _ (wE hk);rw[e]at e1;cases e1;have hnm:n-M.length=n-A.length:=by rw[R.len]
   exact⟨_,us,by rw[wS (by rw[<-R.len];omega),hnm];exact wE hk,e2,e3⟩
 ·exact zO (λk b eb=>by rw[wD (wC.mp eb).1];exact eb) (λa o x y=>⟨x,y⟩) t (R.glo g t e)
theorem JC{A X:List Nat}{h:AH}(n:Nat):∀{ts:List T}{ws:List V},qL A X h ts ws->jH A X h (ts.map some++List.replicate n none) (ws.map some++List.replicate n none)
 | [],ws,r=>by
  unfold qL at r;subst r;show jH A X h (List.replicate n none) (List.replicate n none)
  induction n with
  |zero=>rfl
  |succ n ih=>exact⟨none,_,rfl,trivial,ih⟩
 |t::ts,ws,r=>by
  unfold qL at r;obtain⟨v,vs,rfl,a,b⟩:=r;exact⟨some v,_,rfl,a,JC n b⟩
def RelO(gl:List T)(A X:List Nat)(n:Nat)(h:AH)(M:Mem):PO->Out->Prop
 | .nx σ,.nx σh=>jH A X h σ σh
 | .bk σ,.bk σh=>jH A X h σ σh
 | .ct σ,.ct σh=>jH A X h σ σh
 | .rt t,.rt w=>QE gl A X n t w h M
 |_,_=>False
theorem RelO.le{gl:List T}{A X:List Nat}{n m:Nat}{h:AH}{M:Mem}{o:PO}{oh:Out}(r:RelO gl A X n h M o oh)(l:m<=n):RelO gl A X m h M o oh:=by
 cases o<;>cases oh<;>first|exact r|exact QE.le r l
def SimS(gl:List T)(A X:List Nat)(h:AH):RSt->RS->Prop
 | .ok (o,M'),r=>∃oh h' B,r=.ok (oh,h')/\Frm A h h'/\(∀b∈B,h.length<=b)/\RelM gl (A++B) (X++B) h' M'/\RelO gl (A++B) (X++B) h.length h' M' o oh
 | .exc c M',r=>∃h' B,r=.exc c h'/\Frm A h h'/\(∀b∈B,h.length<=b)/\RelM gl (A++B) (X++B) h' M'
 | .stuck,_=>True
theorem SimS.stuck{gl:List T}{A X:List Nat}{h:AH}{r:RS}:SimS gl A X h .stuck r:=trivial
theorem SimS.mk{gl:List T}{A X:List Nat}{h:AH}{M:Mem}{o:PO}{oh:Out}(R:RelM gl A X h M)(ro:RelO gl A X h.length h M o oh):SimS gl A X h (.ok (o,M)) (.ok (oh,h)):=
 ⟨oh,h,[],rfl,Frm.refl A h,λb hb=>by simp at hb,by simpa using R,by simpa using ro⟩
theorem SimS.pre{gl:List T}{A X:List Nat}{h h1:AH}{r:RSt}{rh:RS}(s:SimS gl A X h1 r rh)(f:Frm A h h1):SimS gl A X h r rh:=by
 cases r with
 |ok p=>
  obtain⟨o,M'⟩:=p;obtain⟨oh,h',B,e,f1,hB,R,ro⟩:=s;exact⟨oh,h',B,e,f.trans f1,λb hb=>wM f.1 (hB b hb),R,ro.le f.1⟩
 |exc c M'=>
  obtain⟨h',B,e,f1,hB,R⟩:=s;exact⟨h',B,e,f.trans f1,λb hb=>wM f.1 (hB b hb),R⟩
 |stuck=>trivial
theorem Sim.bindS{α β:Type}{gl:List T}{A X:List Nat}{h:AH}{Q:α->β->AH->Mem->Prop}{r:PR (α×Mem)}{rh:Res (β×AH)}{f:α×Mem->RSt}{g:β×AH->RS}
  (s:Sim gl A X h Q r rh) (k:∀x M' y h',Frm A h h'->RelM gl A X h' M'->Q x y h' M'->SimS gl A X h' (f (x,M')) (g (y,h'))):SimS gl A X h (r.bind f) (rh.bind g):=by
 cases r with
 |ok p=>
  obtain⟨x,M'⟩:=p;obtain⟨y,h',rfl,f1,R1,q⟩:=s;exact(k x M' y h' f1 R1 q).pre f1
 |exc c M'=>
  obtain⟨h',rfl,f1,R1⟩:=s;exact⟨h',[],rfl,f1,λb hb=>by simp at hb,by simpa using R1⟩
 |stuck=>trivial
theorem SimS.bind{gl:List T}{A X:List Nat}{h:AH}{r:RSt}{rh:RS}{f:PO×Mem->RSt}{g:Out×AH->RS}
  (s:SimS gl A X h r rh) (k:∀o M' oh h' B,Frm A h h'->(∀b∈B,h.length<=b)->RelM gl (A++B) (X++B) h' M'->RelO gl (A++B) (X++B) h.length h' M' o oh->SimS gl (A++B) (X++B) h' (f (o,M')) (g (oh,h'))\/(f (o,M')=.ok (o,M')/\g (oh,h')=.ok (oh,h'))):SimS gl A X h (r.bind f) (rh.bind g):=by
 cases r with
 |ok p=>
  obtain⟨o,M'⟩:=p;obtain⟨oh,h',B,rfl,f1,hB,R,ro⟩:=s;rw[tD,tH];rcases k o M' oh h' B f1 hB R ro with s2|⟨e1,e2⟩
  ·revert s2;generalize f (o,M')=r2;generalize g (oh,h')=rh2;intro s2;cases r2 with
   |ok p2=>
    obtain⟨o2,M2⟩:=p2;obtain⟨oh2,h2,B2,rfl,f2,hB2,R2,ro2⟩:=s2;rw[List.append_assoc,List.append_assoc]at R2 ro2;exact⟨oh2,h2,B++B2,rfl,f1.trans2 hB f2,λb hb=>by
     rcases wJ.mp hb with z|z
     ·exact hB b z
     ·exact wM f1.1 (hB2 b z),R2,ro2.le f1.1⟩
   |exc c M2=>
    obtain⟨h2,B2,rfl,f2,hB2,R2⟩:=s2;rw[List.append_assoc,List.append_assoc]at R2;exact⟨h2,B++B2,rfl,f1.trans2 hB f2,λb hb=>by
     rcases wJ.mp hb with z|z
     ·exact hB b z
     ·exact wM f1.1 (hB2 b z),R2⟩
   |stuck=>trivial
  ·rw[e1,e2];exact⟨oh,h',B,rfl,f1,hB,R,ro⟩
 |exc c M'=>
  obtain⟨h',B,rfl,f1,hB,R⟩:=s;exact⟨h',B,rfl,f1,hB,R⟩
 |stuck=>trivial
theorem J2{A X B:List Nat}{h h':AH}(hs:∀a∈A,a∈X)(f:Frm A h h')(hB:∀b∈B,h.length<=b):∀a o,a∉X->h[a]?=some o->a∉X++B/\h'[a]?=some o:=λa o x y=>⟨by
 rw[wJ];rintro(z|z)
 ·exact x z
 ·have:=hB a z;have:=qM y;omega,(f.2 a (qM y) λz=>x (hs _ z)).trans y⟩
theorem jS{A B:List Nat}:∀(n:Nat) a,A[n]?=some a->(A++B)[n]?=some a:=λn a e=>by rw[wD (wC.mp e).1];exact e
theorem O4{gl:List T}{s:Src}{its:List T}{d:ZH}{g:Tg}{b:TS->Mem->RSt}{b':List (Option V)->AH->RS}
  (hb:∀A X h M σ σh,RelM gl A X h M->jH A X h σ σh->SimS gl A X h (b σ M) (b' σh h)):∀(r:List T) (i:Nat) (σ:TS) (σh:List (Option V)) (M:Mem) (h:AH) (A X:List Nat),
   its.drop i=r->i<=its.length->RelM gl A X h M->QD A X h s its d->jH A X h σ σh->SimS gl A X h (jC d g b r σ M) (Y2 s g b' r.length i σh h)
 | [],i,σ,σh,M,h,A,X,hr,hi,R,sr,rs=>by
  have hi':i=its.length:=by
   have:=List.drop_eq_nil_iff.mp hr;omega
  subst hi';show SimS gl A X h (.ok (.nx σ,M)) (if jE h its.length s then _ else _);rw[if_pos (Ji sr)];exact SimS.mk R rs
 |x::r,i,σ,σh,M,h,A,X,hr,hi,R,sr,rs=>by
  have ex:its[i]?=some x:=by
   have:(its.drop i)[0]?=some x:=by rw[hr];rfl
   rwa [List.getElem?_drop,Nat.add_zero]at this
  have hi2:i+1<=its.length:=(wC.mp ex).1;have hr2:its.drop (i+1)=r:=by
   rw[<-List.drop_drop,hr];rfl
  obtain⟨w,ext,ey,rx⟩:=ZK R sr ex;have fy:Frm A h (h++ext):=Frm.app A h ext;rw[List.length_cons];unfold jC Y2;rw[ey];dsimp only;cases es:zV g x σ with
  |none=>exact SimS.stuck
  |some σ1=>
   obtain⟨σh1,esh,rs1⟩:=jh es rx (R.keepS fy rs);rw[esh];dsimp only;refine SimS.bind ((hb A X _ M σ1 σh1 (R.up ext) rs1).pre fy) ?_;intro o M2 oh h2 B f2 hB R2 ro;have nxt:∀σ2 σh2,jH (A++B) (X++B) h2 σ2 σh2->SimS gl (A++B) (X++B) h2 (if qk d M2=true then jC d g b r σ2 M2 else .stuck) (Y2 s g b' r.length (i+1) σh2 h2):=λσ2 σh2 rs2=>by
    split
    ·rename_i hd;exact O4 hb r (i+1) σ2 σh2 M2 h2 _ _ hr2 hi2 R2 (ZN sr (J2 R.sub f2 hB) R2 hd jS) rs2
    ·exact SimS.stuck
   cases o with
   |nx σ2=>cases oh<;>first|exact .inl (nxt _ _ ro)|exact ro.elim
   |ct σ2=>cases oh<;>first|exact .inl (nxt _ _ ro)|exact ro.elim
   |bk σ2=>cases oh<;>first|exact .inl (SimS.mk R2 ro)|exact ro.elim
   |rt t=>cases oh<;>first|exact .inr ⟨rfl,rfl⟩|exact ro.elim
theorem Qa{gl:List T}{c:TS->Mem->PR (Bool×Mem)}{c':List (Option V)->AH->Res (Bool×AH)}{b:TS->Mem->RSt}{b':List (Option V)->AH->RS}
  (hc:∀A X h M σ σh,RelM gl A X h M->jH A X h σ σh->Sim gl A X h (λb b' _ _=>b=b') (c σ M) (c' σh h))
  (hb:∀A X h M σ σh,RelM gl A X h M->jH A X h σ σh->SimS gl A X h (b σ M) (b' σh h)):∀(n:Nat) (σ:TS) (σh:List (Option V)) (M:Mem) (h:AH) (A X:List Nat),
   RelM gl A X h M->jH A X h σ σh->SimS gl A X h (jy c b n σ M) (jW c' b' n σh h)
 | 0,σ,σh,M,h,A,X,R,rs=>SimS.stuck
 |n+1,σ,σh,M,h,A,X,R,rs=>by
  unfold jy jW;refine Sim.bindS (hc A X h M σ σh R rs) ?_;rintro t M1 t' h1 f1 R1 rfl;dsimp only;cases t with
  |false=>exact SimS.mk R1 (R.keepS f1 rs)
  |true=>
   simp only[if_true];refine SimS.bind (hb A X h1 M1 σ σh R1 (R.keepS f1 rs)) ?_;intro o M2 oh h2 B f2 hB R2 ro;cases o with
   |nx σ2=>cases oh<;>first|exact .inl (Qa hc hb n _ _ M2 h2 _ _ R2 ro)|exact ro.elim
   |ct σ2=>cases oh<;>first|exact .inl (Qa hc hb n _ _ M2 h2 _ _ R2 ro)|exact ro.elim
   |bk σ2=>cases oh<;>first|exact .inl (SimS.mk R2 ro)|exact ro.elim
   |rt t=>cases oh<;>first|exact .inr ⟨rfl,rfl⟩|exact ro.elim
section
variable{gl:List T}{P:Nat->List T->Mem->PR (TB×Mem)}{F:Nat->List V->AH->RV}(C:List Nat)
variable (hF:∀f ts ws A X h M,RelM gl A X h M->qL A X h ts ws->Sim gl A X h (QE gl A X h.length) (P f ts M) (F f ws h))
include hF
omit hF in
theorem Res.bind_assoc{α β γ:Type}(r:Res α)(f:α->Res β)(g:β->Res γ):(r.bind f).bind g=r.bind λa=>(f a).bind g:=by cases r<;>rfl
omit hF in
def qFp(gl:List T)(A X:List Nat)(h:AH):PR (TB×Mem)->RV->Prop
 | .ok ((.lst ts,_),M1),r=>∃h1 vs,r=.ok (.ref h1.length,h1++[.lst false vs])/\Frm A h h1/\RelM gl A X h1 M1/\qL A X h1 ts vs
 |_,_=>True
omit hF in
theorem RelM.cellN{gl:List T}{A X:List Nat}{h:AH}{M:Mem}{ts:List T}{vs:List V}(R:RelM gl A X h M)(r:qL A X h ts vs):RelM gl (A++[h.length]) (X++[h.length]) (h++[.lst false vs]) (M++[ts]):=by
 have hn:∀a o,a∉X->h[a]?=some o->a∉X++[h.length]/\(h++[O.lst false vs])[a]?=some o:=J2 R.sub (Frm.app A h _) (λb hb=>by simp at hb;omega);refine⟨by simp[R.len],?_,λa ha=>?_,λa ha=>?_,λn a e=>?_,λg t e=>zO jS hn t (R.glo g t e)⟩
 ·rw[wt];refine⟨R.nd,by simp,λa ha b hb=>?_⟩;have:=R.lt a (R.sub a ha);simp at hb;omega
 ·rcases wJ.mp ha with z|z
  ·exact wO _ (R.sub a z)
  ·exact wQ _ z
 ·rcases wJ.mp ha with z|z
  ·have:=R.lt a z;simp;omega
  ·simp at z;simp[z]
 ·by_cases hlt:n<A.length
  ·rw[wD hlt]at e;obtain⟨us,ws,e1,e2,e3⟩:=R.at_ n a e;exact⟨us,ws,by rw[wD (by rw[<-R.len];exact hlt)];exact e1,by rw[wD (qM e2)];exact e2,qO jS hn us e3⟩
  ·have hl:=(wC.mp e).1;have hnn:n=A.length:=by simp at hl;omega
   subst hnn;simp at e;subst e;exact⟨ts,vs,by rw[R.len];simp,by simp,qO jS hn ts r⟩
omit hF in
theorem X8{e:E}(h:qCh e=true):(∃as,e=.lst as)\/∃a b,e=.bin .add a b:=by
 unfold qCh at h;split at h
 ·exact .inr ⟨_,_,rfl⟩
 ·exact .inl ⟨_,rfl⟩
 ·cases h
theorem qAa(e:E)(he:qCh e=true)(A X:List Nat)(h:AH)(M:Mem)(σ:TS)(σh:List (Option V))(R:RelM gl A X h M)(rs:jH A X h σ σh):qFp gl A X h (pe gl P e σ M) (ev F e σh h):=by
 rcases X8 he with⟨as,rfl⟩|⟨a,b,rfl⟩
 ·rw[pe,ev];dsimp only;have s1:=ja hF as A X h M σ σh R rs;revert s1;generalize pes gl P as σ M=r;generalize evs F as σh h=rh;intro s1;cases r with
  |stuck=>trivial
  |exc c M'=>trivial
  |ok p=>
   obtain⟨x,M1⟩:=p;obtain⟨w,h1,rfl,f1,R1,q⟩:=s1;rw[tD,tH];dsimp only;rw[<-q.len];split
   ·exact⟨h1,w,rfl,f1,R1,q.1⟩
   ·trivial
 ·rw[pe,ev];dsimp only;have s1:=qR hF a A X h M σ σh R rs;revert s1;generalize pe gl P a σ M=r;generalize ev F a σh h=rh;intro s1;cases r with
  |stuck=>trivial
  |exc c M'=>trivial
  |ok p=>
   obtain⟨x,M1⟩:=p;obtain⟨v,h1,rfl,f1,R1,q1⟩:=s1;rw[tD,tH];dsimp only;have s2:=qR hF b A X h1 M1 σ σh R1 (R.keepS f1 rs);revert s2;generalize pe gl P b σ M1=r;generalize ev F b σh h1=rh;intro s2;cases r with
   |stuck=>trivial
   |exc c M'=>trivial
   |ok p=>
    obtain⟨y,M2⟩:=p;obtain⟨w,h2,rfl,f2,R2,q2⟩:=s2;rw[tD,tH];dsimp only;have rx:=R1.keep f2 q1.1;cases eb:qc M2 .add x.1 y.1 with
    |none=>trivial
    |some r=>
     rw[PR.ofO_some,tD];unfold qc at eb;split at eb
     ·cases eb;trivial
     ·cases eb
     ·rename_i e1 e2;dsimp only at eb;split at eb
      ·split at eb
       ·cases eb;trivial
       ·cases eb
      rename_i u0 u1 u2;clear u2;obtain⟨xs,m1,eb⟩:=wH.mp eb;obtain⟨ys,m2,eb⟩:=wH.mp eb;split at eb
      ·rename_i hl;cases eb;obtain⟨a1,vs,rfl,g1,k1⟩:=V6 R2 rx m1;obtain⟨a2,us,rfl,g2,k2⟩:=V6 R2 q2.1 m2;refine⟨h2,vs++us,?_,f1.trans f2,R2,reps_iff.mpr (zU (reps_iff.mp k1) (reps_iff.mp k2))⟩;show (match qo h2 a1,qo h2 a2 with|some xs,some ys=>if xs.length+ys.length<=lim then newL (xs++ys) h2 else .stuck|_,_=>_)=_;rw[g1,g2];dsimp only;rw[<-qE (reps_iff.mp k1),<-qE (reps_iff.mp k2),if_pos hl];rfl
      ·cases eb
     ·cases eb
omit hF in
omit hF in
omit hF in
omit hF in
omit hF in
omit hF in
omit hF in
omit hF in
def SimN(gl:List T)(A X:List Nat)(D n0:Nat)(h:AH):RSt->RS->Prop
 | .ok (o,M'),r=>∃oh h',r=.ok (oh,h')/\Frm (A++[D]) h h'/\RelM gl A X h' M'/\RelO gl A X n0 h' M' o oh
 | .exc _ _,_=>False
 | .stuck,_=>True
omit hF in
theorem SimN.pre{A X:List Nat}{D n0:Nat}{h h1:AH}{r:RSt}{rh:RS}(s:SimN gl A X D n0 h1 r rh)(f:Frm (A++[D]) h h1):SimN gl A X D n0 h r rh:=by
 match r,s with
 | .ok (o,M'),⟨oh,h',e,f1,R,ro⟩=>exact⟨oh,h',e,f.trans f1,R,ro⟩
 | .exc _ _,z=>exact z.elim
 | .stuck,_=>trivial
omit hF in
theorem Frm.more{A:List Nat}{D:Nat}{h h':AH}(f:Frm A h h'):Frm (A++[D]) h h':=⟨f.1,λj hj hA=>f.2 j hj λz=>hA (wO _ z)⟩
mutual
theorem qEU:∀(s:S) (A X:List Nat) (h:AH) (M:Mem) (σ:TS) (σh:List (Option V)),RelM gl A X h M->jH A X h σ σh->SimS gl A X h (px gl P C s σ M) (ex F s σh h)
 | .asg g e,A,X,h,M,σ,σh,R,rs=>by
  rw[px,ex];dsimp only;have se:=qR hF e A X h M σ σh R rs;have tp:=λhe=>qAa hF e he A X h M σ σh R rs;revert se tp;generalize pe gl P e σ M=r;generalize ev F e σh h=rh;intro se tp;cases r with
  |stuck=>trivial
  |exc c M'=>
   obtain⟨h',rfl,f1,R1⟩:=se;exact⟨h',[],rfl,f1,λb hb=>by simp at hb,by simpa using R1⟩
  |ok p=>
   obtain⟨x,M1⟩:=p;obtain⟨w,h1,rfl,f1,R1,q⟩:=se;rw[tD,tH];dsimp only;have gen:∀{g:Tg}{σ1:TS},zV g x.1 σ=some σ1->SimS gl A X h (.ok (.nx σ1,M1)) (match store g w σh h1 with|some σ1=>.ok (.nx σ1,h1)|none=>.stuck):=λe=>by
    obtain⟨σh1,e2,rs2⟩:=jh e q.1 (R.keepS f1 rs);rw[e2];exact(SimS.mk (o:=.nx _) (oh:=.nx _) R1 rs2).pre f1
   cases g with
   |name i=>
    dsimp only;split
    ·rename_i hc;rw[wB]at hc;obtain⟨fp,p,nd,l,R',_⟩:=q.2 hc.2;obtain⟨R2,r2⟩:=R'.thaw R.sub p nd;refine⟨.nx (σh.set i (some w)),h1,fp,rfl,f1,l,R2,?_⟩;exact zy i (zx jS (J2 R.sub f1 l) rs) (show qBT _ _ h1 (some _) (some w) from r2)
    ·split
     ·rename_i hc;rw[wB]at hc;have tp:=tp hc.2;obtain⟨x1,x2⟩:=x;dsimp only;split
      ·rename_i ts;obtain⟨h0,vs,e0,f0,R0,r0⟩:=tp;cases e0;refine⟨.nx (σh.set i (some (.ref h0.length))),_,[h0.length],rfl,f0.trans (Frm.app A h0 _),λb hb=>by simp at hb;have:=f0.1;omega,R0.cellN r0,?_⟩;refine zy i (zx jS (J2 R0.sub (Frm.app A h0 _) (λb hb=>by simp at hb;omega)) (R.keepS f0 rs)) (show qBT _ _ _ (some _) (some _) from ?_);have rc:Rep (A++[h0.length]) (X++[h0.length]) (h0++[O.lst false vs]) (.cell M1.length) (.ref h0.length):=by
        unfold Rep;exact⟨h0.length,by rw[<-R0.len];simp,rfl⟩
       exact rc
      ·exact SimS.stuck
     ·exact gen (g:=.name i) rfl
   |tup is=>
    dsimp only;split
    ·rename_i σ1 e;exact gen e
    ·exact SimS.stuck
 | .put o i v,A,X,h,M,σ,σh,R,rs=>by
  rw[px,ex];dsimp only;refine Sim.bindS (qR hF v A X h M σ σh R rs) ?_;intro x M1 vx h1 f1 R1 q1;dsimp only;refine Sim.bindS (qR hF o A X h1 M1 σ σh R1 (R.keepS f1 rs)) ?_;intro y M2 w h2 f2 R2 q2;dsimp only;refine Sim.bindS (qR hF i A X h2 M2 σ σh R2 (R1.keepS f2 (R.keepS f1 rs))) ?_;intro z M3 u h3 f3 R3 q3;dsimp only;obtain⟨ty,fy⟩:=y;obtain⟨tz,fz⟩:=z;dsimp only;split
  ·rename_i n k;cases zC q3.1;have q:=R2.keep f3 q2.1;unfold Rep at q;obtain⟨p,ep,rfl⟩:=q;obtain⟨ts2,vs2,g1,g2,g3⟩:=R3.at_ n p ep;rw[g1];dsimp only;rw[show qo h3 p=some vs2 by unfold qo;rw[g2]];dsimp only;rw[<-qE (reps_iff.mp g3)];split
   ·rename_i j ej
    try simp only[ej]
    obtain⟨R4,f4⟩:=R3.put ep (reps_iff.mpr (zy j (reps_iff.mp g3) (R2.keep f3 (R1.keep f2 q1.1))));exact(SimS.mk (o:=.nx σ) (oh:=.nx σh) R4 (R3.keepS f4 (R2.keepS f3 (R1.keepS f2 (R.keepS f1 rs))))).pre f4
   ·exact SimS.stuck
  ·exact SimS.stuck
 | .expr e,A,X,h,M,σ,σh,R,rs=>by
  rw[px,ex];dsimp only;refine Sim.bindS (qR hF e A X h M σ σh R rs) ?_;intro x M1 v h1 f1 R1 q1;dsimp only;exact SimS.mk (o:=.nx σ) (oh:=.nx σh) R1 (R.keepS f1 rs)
 | .ret e,A,X,h,M,σ,σh,R,rs=>by
  rw[px,ex];dsimp only;have se:=qR hF e A X h M σ σh R rs;revert se;generalize pe gl P e σ M=r;generalize ev F e σh h=rh;intro se;cases r with
  |stuck=>trivial
  |exc c M'=>
   obtain⟨h',rfl,f1,R1⟩:=se;exact⟨h',[],rfl,f1,λb hb=>by simp at hb,by simpa using R1⟩
  |ok p=>
   obtain⟨x,M1⟩:=p;obtain⟨w,h1,rfl,f1,R1,q⟩:=se;exact⟨.rt w,h1,[],rfl,f1,λb hb=>by simp at hb,by simpa using R1,by simpa using (show RelO gl A X h.length h1 M1 (.rt x) (.rt w) from q)⟩
 | .ifs c t u,A,X,h,M,σ,σh,R,rs=>by
  rw[px,ex];dsimp only;refine Sim.bindS (M9 (qR hF c A X h M σ σh R rs)) ?_;rintro x M1 v h1 f1 R1 rfl;dsimp only;cases x with
  |true=>simp only[if_true];exact Qx t A X h1 M1 σ σh R1 (R.keepS f1 rs)
  |false=>simp only[vB,if_false];exact Qx u A X h1 M1 σ σh R1 (R.keepS f1 rs)
 | .for_ g it b,A,X,h,M,σ,σh,R,rs=>by
  rw[px,ex];dsimp only;refine Sim.bindS (v4 hF it A X h M σ σh R rs) ?_;intro s M1 sh h1 f1 R1 q1;dsimp only;rw[F5 q1];exact O4 (λA X h M σ σh R rs=>Qx b A X h M σ σh R rs) s.1 0 σ σh M1 h1 A X rfl (wu _) R1 q1 (R.keepS f1 rs)
 | .while_ c b,A,X,h,M,σ,σh,R,rs=>by
  rw[px,ex];dsimp only;exact Qa (λA X h M σ σh R rs=>M9 (qR hF c A X h M σ σh R rs)) (λA X h M σ σh R rs=>Qx b A X h M σ σh R rs) qB4 σ σh M h A X R rs
 | .stop,A,X,h,M,σ,σh,R,rs=>by rw[px,ex];exact SimS.stuck
theorem Qx:∀(s:Ss) (A X:List Nat) (h:AH) (M:Mem) (σ:TS) (σh:List (Option V)),RelM gl A X h M->jH A X h σ σh->SimS gl A X h (pxs gl P C s σ M) (exs F s σh h)
 | .nil,A,X,h,M,σ,σh,R,rs=>by rw[pxs,exs];exact SimS.mk (o:=.nx σ) (oh:=.nx σh) R rs
 | .cons s r,A,X,h,M,σ,σh,R,rs=>by
  rw[pxs,exs];dsimp only;refine SimS.bind (qEU s A X h M σ σh R rs) ?_;intro o M1 oh h1 B f1 hB R1 ro;cases o with
  |nx σ2=>cases oh<;>first|exact .inl (Qx r _ _ h1 M1 _ _ R1 ro)|exact ro.elim
  |ct σ2=>cases oh<;>first|exact .inr ⟨rfl,rfl⟩|exact ro.elim
  |bk σ2=>cases oh<;>first|exact .inr ⟨rfl,rfl⟩|exact ro.elim
  |rt t=>cases oh<;>first|exact .inr ⟨rfl,rfl⟩|exact ro.elim
end
end
section
variable{gl:List T}{A X B:List Nat}{h h':AH}{M M1:Mem}
theorem mapM_cons{α β:Type}{f:α->Option β}{x:α}{xs:List α}{ys:List β}(e:(x::xs).mapM f=some ys):∃y ys',f x=some y/\xs.mapM f=some ys'/\ys=y::ys':=by
 rw[List.mapM_cons]at e;cases hf:f x with
 |none=>rw[hf]at e;cases e
 |some y=>
  rw[hf]at e;cases hg:xs.mapM f with
  |none=>rw[hg]at e;cases e
  |some ys'=>rw[hg]at e;cases e;exact⟨y,ys',rfl,rfl,rfl⟩
theorem mapM_nil{α β:Type}{f:α->Option β}{ys:List β}(e:([]:List α).mapM f=some ys):ys=[]:=by
 rw[List.mapM_nil]at e;cases e;rfl
theorem jT{A1 X1:List Nat}{f:T->Option T}(hf:∀t t' w,f t=some t'->Rep A1 X1 h t w->Rep A X h t' w):∀{ts ts':List T}{vs:List V},ts.mapM f=some ts'->qL A1 X1 h ts vs->qL A X h ts' vs
 | [],ts',vs,e,r=>by cases mapM_nil e;unfold qL at r ⊢;exact r
 |t::ts,ts',vs,e,r=>by
  obtain⟨y,ys,e1,e2,rfl⟩:=mapM_cons e;unfold qL at r ⊢;obtain⟨v,vs',rfl,a,b⟩:=r;exact⟨v,vs',rfl,hf _ _ _ e1 a,jT hf e2 b⟩
theorem N2(R:RelM gl (A++B) (X++B) h M1)(hB:∀b∈B,b∉X):∀(d:Nat) (t t':T) (w:V),qY M1 A.length d t=some t'->Rep (A++B) (X++B) h t w->Rep A X h t' w:=by
 have hu:∀(t:T) (w:V),t.und A.length=true->Rep (A++B) (X++B) h t w->Rep A X h t w:=λt w u r=>S3 (λn hn=>wD hn) (λa ha=>wO _ ha) t r u;have hX:∀a,a∉X++B->a∉X:=λa x z=>x (wO _ z);intro d
 induction d with
 |zero=>
  intro t t' w e r;unfold qY at e;split at e
  ·rename_i u;cases e;exact hu _ w u r
  ·cases e
 |succ d ih=>
  intro t t' w e r;unfold qY at e;split at e
  ·rename_i u;cases e;exact hu _ w u r
  ·rename_i u;cases t with
   |v x=>cases e
   |ob o=>cases e
   |fz ts=>cases e
   |lst ts=>
    obtain⟨ts',e1,rfl⟩:=wA.mp e;unfold Rep at r ⊢;obtain⟨a,vs,rfl,q1,q2,q3⟩:=r;exact⟨a,vs,rfl,hX a q1,q2,jT ih e1 q3⟩
   |tup ts=>
    obtain⟨ts',e1,rfl⟩:=wA.mp e;unfold Rep at r ⊢;obtain⟨a,vs,rfl,q1,q2,q3⟩:=r;exact⟨a,vs,rfl,hX a q1,q2,jT ih e1 q3⟩
   |cell n=>
    obtain⟨ts,e0,e⟩:=wH.mp (show (M1[n]?).bind _=_ from e);obtain⟨ts',e1,rfl⟩:=wA.mp e;have hn:A.length<=n:=by
     unfold T.und at u;simpa using u
    unfold Rep at r ⊢;obtain⟨a,ea,rfl⟩:=r;obtain⟨ts2,vs,g1,g2,g3⟩:=R.at_ n a ea;rw[e0]at g1;cases g1;rw[wS hn]at ea;exact⟨a,vs,rfl,hB a (wW ea),g2,jT ih e1 g3⟩
mutual
theorem v3(n:Nat):∀(t:T),t.lf=true->t.und n=true
 | .v x,_=>rfl
 | .cell _,l=>by unfold T.lf at l;cases l
 | .ob _,_=>rfl
 | .fz _,l=>by unfold T.lf at l;cases l
 | .lst _,l=>by unfold T.lf at l;cases l
 | .tup ts,l=>by unfold T.lf at l;unfold T.und;exact Ju n ts l
theorem Ju(n:Nat):∀(ts:List T),T.lfs ts=true->T.unds n ts=true
 | [],_=>rfl
 |t::ts,l=>by unfold T.lfs at l;rw[wB]at l;unfold T.unds;rw[v3 n t l.1,Ju n ts l.2];rfl
end
theorem W5{n0:Nat}{f:T->Option (List Nat)}(hf:∀t l,f t=some l->t.und n0=true->t.lf=true):∀{ts:List T}{ls:List (List Nat)},ts.mapM f=some ls->T.unds n0 ts=true->T.lfs ts=true
 | [],ls,e,u=>rfl
 |t::ts,ls,e,u=>by
  obtain⟨y,ys,e1,e2,rfl⟩:=mapM_cons e;unfold T.unds at u;rw[wB]at u;unfold T.lfs;rw[hf t _ e1 u.1,W5 hf e2 u.2];rfl
theorem P4{n0:Nat}:∀(d:Nat) (t:T) (l:List Nat),Qd M1 n0 d t=some l->t.und n0=true->t.lf=true:=by
 intro d
 induction d with
 |zero=>intro t l e u;unfold Qd at e;split at e<;>first|assumption|cases e
 |succ d ih=>
  intro t l e u;unfold Qd at e;split at e
  ·assumption
  ·cases t with
   |tup ts=>
    obtain⟨ls,e1,rfl⟩:=wA.mp e;unfold T.und at u;unfold T.lf;exact W5 ih e1 u
   |cell n=>
    dsimp only at e;split at e
    ·rename_i hn;unfold T.und at u;simp at u;omega
    ·cases e
   |v x=>cases e
   |ob o=>cases e
   |fz ts=>cases e
   |lst ts=>cases e
theorem Zp{A1 X1:List Nat}{n0:Nat}{f:T->Option (List Nat)}{g:T->Option T}(hf:∀t l t' w,f t=some l->g t=some t'->Rep A1 X1 h t w->∃fp,FP X h t' w fp/\fp.map some=l.map (A1[·]?)/\∀n∈l,n0<=n):
  ∀{ts ts':List T}{ls:List (List Nat)}{vs:List V},ts.mapM f=some ls->ts.mapM g=some ts'->qL A1 X1 h ts vs->∃fp,FPs X h ts' vs fp/\fp.map some=ls.flatten.map (A1[·]?)/\∀n∈ls.flatten,n0<=n
 | [],ts',ls,vs,e,e',r=>by
  cases mapM_nil e;cases mapM_nil e';unfold qL at r;exact⟨[],by unfold FPs;exact⟨r,rfl⟩,rfl,λn hn=>by simp at hn⟩
 |t::ts,ts',ls,vs,e,e',r=>by
  obtain⟨y,ys,e1,e2,rfl⟩:=mapM_cons e;obtain⟨z,zs,e3,e4,rfl⟩:=mapM_cons e';unfold qL at r;obtain⟨v,vs',rfl,a,b⟩:=r;obtain⟨f1,p1,q1,n1⟩:=hf _ _ _ _ e1 e3 a;obtain⟨f2,p2,q2,n2⟩:=Zp hf e2 e4 b;refine⟨f1++f2,by unfold FPs;exact⟨v,vs',f1,f2,rfl,p1,p2,rfl⟩,by simp[q1,q2],λn hn=>?_⟩;rw[List.flatten_cons]at hn;rcases wJ.mp hn with z|z
  ·exact n1 n z
  ·exact n2 n z
theorem Qc{n0:Nat}{d:Nat}{t t':T}(u:t.und n0=true)(e:qY M1 n0 d t=some t'):t'=t:=by
 cases d<;>(unfold qY at e;rw[if_pos u]at e;cases e;rfl)
theorem g8(R:RelM gl (A++B) (X++B) h M1)(hB:∀b∈B,b∉X):∀(d:Nat) (t:T) (l:List Nat) (t':T) (w:V),Qd M1 A.length d t=some l->qY M1 A.length d t=some t'->Rep (A++B) (X++B) h t w ->
  ∃fp,FP X h t' w fp/\fp.map some=l.map ((A++B)[·]?)/\∀n∈l,A.length<=n:=by
 have hX:∀a,a∉X++B->a∉X:=λa x z=>x (wO _ z);have lfc:∀{d:Nat}{t t':T}{w:V},t.lf=true->qY M1 A.length d t=some t'->Rep (A++B) (X++B) h t w->∃fp:List Nat,FP X h t' w fp/\fp.map some=([]:List Nat).map ((A++B)[·]?)/\∀n∈([]:List Nat),A.length<=n:=by
  intro d t t' w l e r;cases Qc (v3 _ t l) e;exact⟨[],ZO (λa o x y=>⟨hX a x,y⟩) _ (qAs _ r l),rfl,λn hn=>by simp at hn⟩
 intro d
 induction d with
 |zero=>
  intro t l t' w e e' r;unfold Qd at e;split at e
  ·rename_i hl;cases e;exact lfc hl e' r
  ·cases e
 |succ d ih=>
  intro t l t' w e e' r;unfold Qd at e;split at e
  ·rename_i hl;cases e;exact lfc hl e' r
  ·rename_i hl;have hu:t.und A.length≠true:=λu=>hl (P4 (M1:=M1) (d+1) t l (by unfold Qd;rw[if_neg hl];exact e) u);unfold qY at e';rw[if_neg hu]at e';cases t with
   |tup ts=>
    obtain⟨ls,e1,rfl⟩:=wA.mp e;obtain⟨ts',e2,rfl⟩:=wA.mp e';unfold Rep at r;obtain⟨a,vs,rfl,q1,q2,q3⟩:=r;obtain⟨fp,p1,p2,p3⟩:=Zp ih e1 e2 q3;exact⟨fp,by unfold FP;exact⟨a,vs,rfl,hX a q1,q2,p1⟩,p2,p3⟩
   |cell n=>
    dsimp only at e e';split at e
    ·rename_i hn;obtain⟨ts,e0,e⟩:=wH.mp e;obtain⟨ls,e1,rfl⟩:=wA.mp e;rw[e0]at e';dsimp only[Option.bind_some]at e';obtain⟨ts',e2,rfl⟩:=wA.mp e';unfold Rep at r;obtain⟨a,ea,rfl⟩:=r;obtain⟨ts2,vs,g1,g2,g3⟩:=R.at_ n a ea;rw[e0]at g1;cases g1;obtain⟨fp,p1,p2,p3⟩:=Zp ih e1 e2 g3;have ea2:=ea;rw[wS hn]at ea2;refine⟨fp++[a],by unfold FP;exact⟨a,vs,fp,rfl,hB a (wW ea2),g2,p1,rfl⟩,?_,λm hm=>?_⟩
     ·rw[List.map_append,List.map_append,p2];simp[ea]
     ·rcases wJ.mp hm with z|z
      ·exact p3 m z
      ·simp at z;omega
    ·cases e
   |v x=>cases e
   |ob o=>cases e
   |fz ts=>cases e
   |lst ts=>cases e
theorem Zo{X' Y:List Nat}(R:RelM gl (A++B) Y h M1)(hX:∀a∈X',a∈Y)(hA:∀a∈A,a∈X')(hc:(M1.take A.length).all (T.unds A.length)=true)(hg:∀(g:Nat) t,gl[g]?=some t->Rep A X' h t (.ref g)):RelM gl A X' h (M1.take A.length):=by
 have l:=R.len;rw[wX]at l;refine⟨by rw[vQ];omega,(wt.mp R.nd).1,hA,λa ha=>R.lt a (hX a ha),λn a e=>?_,hg⟩;have hn:=(wC.mp e).1;obtain⟨ts,vs,e1,e2,e3⟩:=R.at_ n a (jS n a e);refine⟨ts,vs,by rw[vH hn];exact e1,e2,jf (λn hn=>wD hn) hX ts e3 ?_⟩;rw[wb]at hc;refine hc ts (wW (i:=n) ?_);rw[vH hn];exact e1
theorem L7{M:Mem}{n0 d:Nat}{t:T}{o:Ob}(h:qY M n0 d t=some (.ob o)):t=.ob o:=by
 cases d with
 |zero=>
  unfold qY at h;split at h
  ·cases h;rfl
  ·cases h
 |succ d=>
  unfold qY at h;split at h
  ·cases h;rfl
  ·cases t with
   |lst ts=>cases hh:ts.mapM (qY M n0 d)<;>simp[hh]at h
   |tup ts=>cases hh:ts.mapM (qY M n0 d)<;>simp[hh]at h
   |cell n=>
    cases hm:M[n]? with
    |none=>simp[hm]at h
    |some ts=>cases hh:ts.mapM (qY M n0 d)<;>simp[hm,hh]at h
   |_=>cases h
theorem JE(R0:RelM gl A X h M)(f:Frm A h h')(hB:∀b∈B,h.length<=b)(R:RelM gl (A++B) (X++B) h' M1){x:TB}{w:V}(q:QE gl (A++B) (X++B) h.length x w h' M1):Sim gl A X h (QE gl A X h.length) (QA M.length x M1) (.ok (w,h')):=by
 have hBX:∀b∈B,b∉X:=λb z y=>by have:=hB b z;have:=R0.lt b y;omega
 have hX:∀a,a∉X++B->a∉X:=λa x z=>x (wO _ z);have hg:∀{Z:List Nat},(∀a∈Z,h.length<=a)->∀(g:Nat) t,gl[g]?=some t->Rep A (X++Z) h' t (.ref g):=λhZ g t e=>zO (λ_ _ e=>e) (λa o x y=>⟨by
   rw[wJ];rintro(z|z)
   ·exact x z
   ·have:=hZ a z;have:=qM y;omega,(R0.keepN f a o x y).2⟩) t (R0.glo g t e)
 unfold QA;rw[<-R0.len];split
 ·rename_i hl;have hB0:B=[]:=by
   have:=R.len;rw[wX,hl]at this;exact wl.mp (by omega)
  subst hB0;rw[wV,wV]at R q;exact⟨w,h',rfl,f,R,q⟩
 split
 ·rename_i hc;refine tM λt' et=>?_;have R':RelM gl A X h' (M1.take A.length):=by
   have:=Zo (X':=X++[]) R (λa ha=>by simp at ha;exact wO _ ha) (λa ha=>by simp;exact R0.sub a ha) hc (hg λa ha=>by simp at ha);simpa using this
  refine⟨w,h',rfl,f,R',N2 R hBX 6 _ _ _ et q.1,λe=>?_⟩;rw[wv]at e;rcases e with e|e
  ·obtain⟨fp,p,nd,l,Rf,nw⟩:=q.2 e;cases Qc (w4 A.length _ p) et;have cr:∀{Z:List Nat},(∀a∈Z,h.length<=a)->RelM gl (A++B) (X++B++Z) h' M1->RelM gl A (X++Z) h' (M1.take A.length):=λ{Z} hZ q=>Zo q (λa ha=>by
    rcases wJ.mp ha with z|z
    ·exact wO _ (wO _ z)
    ·exact wQ _ z) (λa ha=>wO _ (R0.sub a ha)) hc (hg hZ)
   exact⟨fp,ZO (λa o x y=>⟨hX a x,y⟩) _ p,nd,l,cr l Rf,λkvs e=>by
    obtain⟨a,q1,q2,q3⟩:=nw kvs e;exact⟨a,q1,q2,cr (λz hz=>by rw[wU.mp hz];exact q2) q3⟩⟩
  ·unfold frR at e;split at e
   ·rename_i l el;have ndl:l.Nodup:=by simpa using e
    obtain⟨fp,p,pm,pn⟩:=g8 R hBX 6 _ _ _ _ el et q.1;have fB:∀a∈fp,a∈B:=λa ha=>by
     have:some a∈fp.map some:=List.mem_map_of_mem ha;rw[pm]at this;obtain⟨n,hn,en⟩:=wy.mp this;rw[wS (pn n hn)]at en;exact wW en
    have nd:fp.Nodup:=by
     have:(fp.map some).Nodup:=by
      rw[pm];refine List.pairwise_map.mpr (List.Pairwise.imp_of_mem ?_ ndl);intro n m hn hm hnm e;have:(A++B)[n]?∈fp.map some:=by rw[pm];exact List.mem_map_of_mem hn
      obtain⟨a,_,ea⟩:=wy.mp this;exact hnm ((List.getElem?_inj (wC.mp ea.symm).1 R.nd).mp e)
     exact(List.pairwise_map.mp this).imp λ{a b} z e=>z (by rw[e])
    refine⟨fp,p,nd,λa ha=>hB a (fB a ha),Zo R (λa ha=>?_) (λa ha=>wO _ (R0.sub a ha)) hc (hg λa ha=>hB a (fB a ha)),λkvs e=>by have e:t'=.ob (.dct kvs):=e;subst e;rw[L7 et]at el;simp[Qd,T.lf]at el⟩;rcases wJ.mp ha with z|z
    ·exact wO _ z
    ·exact wQ _ (fB a z)
   ·cases e
 ·exact Sim.stuck
end
theorem qC1(gl:List T)(tb:List Fn)(Cs:List (List Nat)):∀(k f:Nat) (ts:List T) (ws:List V) (A X:List Nat) (h:AH) (M:Mem),RelM gl A X h M->qL A X h ts ws->Sim gl A X h (QE gl A X h.length) (Pk gl tb Cs k f ts M) (Fk tb k f ws h)
 | 0,f,ts,ws,A,X,h,M,R,rs=>Sim.stuck
 |k+1,f,ts,ws,A,X,h,M,R,rs=>by
  unfold Pk Fk;cases ed:tb[f]? with
  |none=>exact Sim.stuck
  |some d=>
   dsimp only;rw[<-qE (reps_iff.mp rs)];split
   ·have s:=Qx (Cs.getD f []) (qC1 gl tb Cs k) d.body A X h M _ _ R (JC (d.nslot-d.npar) rs);revert s;generalize pxs gl (Pk gl tb Cs k) (Cs.getD f []) d.body (ts.map some++List.replicate (d.nslot-d.npar) none) M=r;generalize exs (Fk tb k) d.body (ws.map some++List.replicate (d.nslot-d.npar) none) h=rh;intro s;cases r with
    |stuck=>exact Sim.stuck
    |exc c M1=>
     obtain⟨h',B,rfl,f1,hB,R1⟩:=s;show Sim gl A X h _ (if _ then _ else if _ then _ else _) _;split
     ·rename_i hl;have hB0:B=[]:=by
       have:=R1.len;rw[wX,hl,R.len]at this;exact wl.mp (by omega)
      subst hB0;rw[wV,wV]at R1;exact⟨h',rfl,f1,R1⟩
     split
     ·rename_i hc;refine⟨h',rfl,f1,?_⟩;rw[<-R.len]at hc ⊢;exact Zo R1 (λa ha=>wO _ ha) R.sub hc λg t e=>R.keep f1 (R.glo g t e)
     ·exact Sim.stuck
    |ok p=>
     obtain⟨o,M1⟩:=p;obtain⟨oh,h',B,rfl,f1,hB,R1,ro⟩:=s;rw[tH];cases o with
     |nx σ=>
      cases oh<;>first|exact ro.elim|skip
      have r:Rep (A++B) (X++B) h' (.v .non) .non:=by unfold Rep;exact⟨rfl,rfl⟩
      exact JE R f1 hB R1 (show QE gl (A++B) (X++B) h.length (.v .non,true) .non h' M1 from⟨r,λ_=>Frs.of_lf R1 r rfl⟩)
     |rt t=>
      cases oh<;>first|exact ro.elim|skip
      exact JE R f1 hB R1 ro
     |bk σ=>exact Sim.stuck
     |ct σ=>exact Sim.stuck
   ·exact Sim.stuck
noncomputable def glT(gs:List O):List T:=gs.map λo=>match o with | .tup xs=>.tup (xs.map .v) | .lst _ xs=>.fz (xs.map .v) | .ob _=>.v .non
noncomputable def qCe(gs:List O):Bool:=gs.all λo=>match o with | .tup xs=>xs.all flat|_=>false
theorem qCz{gs:List O}{tb:List Fn}{Cs:List (List Nat)}{k i:Nat}{ns:List Int}{b:Bool}{M':Mem}(hg:qCe gs=true)(e:Pk (glT gs) tb Cs k i [.fz (ns.map λn=>.v (.int n))] []=.ok ((.v (.bl true),b),M')):
  ∃h',Fk tb k i [.ref gs.length] (gs++[.lst true (ns.map V.int)])=.ok (.bl true,h'):=by
 have R:RelM (glT gs) [] [] (gs++[.lst true (ns.map V.int)]) []:=by
  refine⟨rfl,vO,λa ha=>by simp at ha,λa ha=>by simp at ha,λn a e=>by simp at e,λg t eg=>?_⟩;unfold glT at eg;rw[we]at eg;obtain⟨o,eo,rfl⟩:=wA.mp eg;unfold qCe at hg;rw[wb]at hg;have ho:=hg o (wW eo);cases o with
  |lst _ _=>cases ho
  |ob _=>cases ho
  |tup xs=>
   dsimp only;unfold Rep;exact⟨g,xs,rfl,by simp,by rw[wD (wC.mp eo).1];exact eo,jb ho⟩
 have rs:qL [] [] (gs++[O.lst true (ns.map V.int)]) [.fz (ns.map λn=>.v (.int n))] [.ref gs.length]:=by
  unfold qL;refine⟨_,[],rfl,?_,by unfold qL;rfl⟩;unfold Rep;refine⟨gs.length,ns.map V.int,rfl,by simp,by simp,?_⟩;have:ns.map (λn=>T.v (.int n))=(ns.map V.int).map .v:=by rw[vM];rfl
  rw[this];exact jb (by simp[flat])
 have s:=qC1 (glT gs) tb Cs k i _ _ [] [] _ [] R rs;rw[e]at s;obtain⟨w,h',e1,_,_,q⟩:=s;cases zC q.1;exact⟨h',e1⟩
noncomputable def qDH(t:T):Option TB:=match t with | .v (.int i)=>some (iT (-i))|_=>none
noncomputable def qDm(M:Mem)(p k x:T):Option Mem:=match p,k with
 | .cell n,.v (.int j)=>(M[n]?).bind λxs=>(_L.ixN xs.length j).map λj=>M.set n (xs.set j x)
 |_,_=>none
noncomputable def qDe(t:T):Option (List T):=match t with | .v (.int j)=>if -1000000<=j/\j<=1000000 then some (qx 0 j.toNat) else none|_=>none
section
variable{gl:List T}{P:Nat->List T->Mem->PR (TB×Mem)}{C:List Nat}{σ:TS}{M:Mem}{a b c e:E}{as lo hi:Es}
@[simp] theorem pe_var(i:Nat):pe gl P (.var i) σ M=match σ[i]? with|some (some t)=>.ok ((t,t.lf),M)|_=>.stuck:=Eq.trans rfl rfl
@[simp] theorem pe_int(i:Int):pe gl P (.cst (.int i)) σ M=.ok (iT i,M):=Eq.trans rfl rfl
@[simp] theorem pe_bl(i:Bool):pe gl P (.cst (.bl i)) σ M=.ok (bT i,M):=Eq.trans rfl rfl
@[simp] theorem pe_non:pe gl P (.cst .non) σ M=.ok ((.v .non,true),M):=Eq.trans rfl rfl
@[simp] theorem pe_str(s:PySem.Str):pe gl P (.cst (.str s)) σ M=.ok ((.v (.str s),true),M):=Eq.trans rfl rfl
@[simp] theorem pe_glob(g:Nat):pe gl P (.glob g) σ M=match gl[g]? with|some t=>.ok ((t,t.lf),M)|none=>.stuck:=Eq.trans rfl rfl
@[simp] theorem qEp(op:BOp):pe gl P (.bin op a b) σ M=(pe gl P a σ M).bind λp=>(pe gl P b σ p.2).bind λq=>(tJ (qc q.2 op p.1.1 q.1.1)).bind λr=>.ok (r,q.2):=Eq.trans rfl rfl
@[simp] theorem qEl:pe gl P (.neg a) σ M=(pe gl P a σ M).bind λp=>(tJ (qDH p.1.1)).bind λr=>.ok (r,p.2):=by
 show PR.bind _ _=_;dsimp only;congr 1;funext p;obtain⟨⟨p1,p3⟩,p2⟩:=p;dsimp only;unfold qDH;cases p1<;>first|rfl|skip
 rename_i x;cases x<;>rfl
@[simp] theorem qCx(op:COp):pe gl P (.cmp op a b) σ M=(pe gl P a σ M).bind λp=>(pe gl P b σ p.2).bind λq=>(tJ (qu q.2 op p.1.1 q.1.1)).bind λr=>.ok (bT r,q.2):=Eq.trans rfl rfl
@[simp] theorem qDY(o1 o2:COp):pe gl P (.cmp2 o1 o2 a b c) σ M=(pe gl P a σ M).bind λp=>(pe gl P b σ p.2).bind λq=>(tJ (qu q.2 o1 p.1.1 q.1.1)).bind λr=>
  if r=true then (pe gl P c σ q.2).bind λz=>(tJ (qu z.2 o2 q.1.1 z.1.1)).bind λr=>.ok (bT r,z.2) else .ok (bT false,q.2):=Eq.trans rfl rfl
@[simp] theorem qDg(o1 o2 o3:COp):pe gl P (.cmp3 o1 o2 o3 a b c d) σ M=(pe gl P a σ M).bind λp=>(pe gl P b σ p.2).bind λq=>(tJ (qu q.2 o1 p.1.1 q.1.1)).bind λr=>
  if r=true then (pe gl P c σ q.2).bind λz=>(tJ (qu z.2 o2 q.1.1 z.1.1)).bind λr=>(if r=true then (pe gl P d σ z.2).bind λw=>(tJ (qu w.2 o3 z.1.1 w.1.1)).bind λr=>.ok (bT r,w.2) else .ok (bT false,z.2)) else .ok (bT false,q.2):=Eq.trans rfl rfl
@[simp] theorem pe_and:pe gl P (.and a b) σ M=(pB (pe gl P a σ M)).bind λp=>if p.1=true then pe gl P b σ p.2 else .ok (bT false,p.2):=Eq.trans rfl rfl
@[simp] theorem pe_or:pe gl P (.or a b) σ M=(pB (pe gl P a σ M)).bind λp=>if p.1=true then .ok (bT true,p.2) else pe gl P b σ p.2:=Eq.trans rfl rfl
@[simp] theorem pe_not:pe gl P (.not a) σ M=(pB (pe gl P a σ M)).bind λp=>.ok (bT (!p.1),p.2):=Eq.trans rfl rfl
@[simp] theorem pe_call(f:Nat):pe gl P (.call f as) σ M=(pes gl P as σ M).bind λp=>(P f (p.1.map (·.1)) p.2).nx:=Eq.trans rfl rfl
@[simp] theorem qEr(f:BF):pe gl P (.blt f as) σ M=(pes gl P as σ M).bind λp=>(tJ (zb p.2 f (p.1.map (·.1)))).bind λr=>.ok (r,p.2):=Eq.trans rfl rfl
@[simp] theorem qEu(ts:List String):pe gl P (.isi a ts) σ M=(pe gl P a σ M).bind λp=>(tJ (qh p.2 p.1.1)).bind λt=>.ok (bT (ts.any (qW t)),p.2):=Eq.trans rfl rfl
@[simp] theorem qFD:pe gl P (.idx a b) σ M=(pe gl P a σ M).bind λp=>(pe gl P b σ p.2).bind λq=>(tJ (QH q.2 p.1.1 q.1.1)).bind λr=>.ok (r,q.2):=Eq.trans rfl rfl
@[simp] theorem qGE:pe gl P (.sl a lo hi) σ M=(pe gl P a σ M).bind λp=>(pes gl P lo σ p.2).bind λl=>(pes gl P hi σ l.2).bind λu=>
  (tJ (p.1.1.its u.2)).bind λxs=>(tJ (qX (l.1.map (·.1)))).bind λi=>(tJ (qX (u.1.map (·.1)))).bind λj=>(tJ (Y1 p.1.1 xs i.head? j.head?)).bind λr=>.ok (r,u.2):=Eq.trans rfl rfl
@[simp] theorem qFB:pe gl P (.rev a) σ M=(pe gl P a σ M).bind λp=>(tJ (p.1.1.lis p.2)).bind λxs=>.ok (lT xs.reverse,p.2):=Eq.trans rfl rfl
@[simp] theorem pe_lst:pe gl P (.lst as) σ M=(pes gl P as σ M).bind λp=>if p.1.length<=lim then .ok ((.lst (p.1.map (·.1)),p.1.all (·.2)),p.2) else .stuck:=Eq.trans rfl rfl
@[simp] theorem pe_tup:pe gl P (.tup as) σ M=(pes gl P as σ M).bind λp=>if p.1.length<=lim then .ok ((.tup (p.1.map (·.1)),p.1.all (·.2)),p.2) else .stuck:=Eq.trans rfl rfl
@[simp] theorem pe_comp(it:Itr)(src:List (Option Nat))(g:Tg)(c:Es):pe gl P (.comp it src g c e) σ M=(pei gl P it σ M).bind λp=>ql p.1.2 g (pec gl P c) (pe gl P e) p.1.1 [] true (QB src σ) p.2:=Eq.trans rfl rfl
theorem qBB:pe gl P (.sset a) σ M=(pe gl P a σ M).bind λp=>(tJ ((p.1.1.lis p.2).bind qX)).bind λis=>if is.length<64 then .ok ((.lst ((zo (uniq is)).map λi=>.v (.int i)),true),p.2) else .stuck:=by
 show PR.bind _ _=_;dsimp only;congr 1;funext p;obtain⟨⟨p1,p3⟩,p2⟩:=p;dsimp only;cases (p1.lis p2).bind qX<;>rfl
@[simp] theorem qDf(m:Mt):pe gl P (.meth m a as) σ M=(pe gl P a σ M).bind λp=>match p.1.1 with
  | .cell n=>(pes gl P as σ p.2).bind λq=>tJ (V8 m n (q.1.map (·.1)) q.2)
  |_=>.stuck:=Eq.trans rfl rfl
@[simp] theorem qES:pe gl P .dnew σ M=.ok ((.ob (.dct []),true),M):=Eq.trans rfl rfl
@[simp] theorem qEW:pes gl P .nil σ M=.ok ([],M):=Eq.trans rfl rfl
@[simp] theorem qDS:pes gl P (.cons a as) σ M=(pe gl P a σ M).bind λp=>(pes gl P as σ p.2).bind λq=>.ok (p.1::q.1,q.2):=Eq.trans rfl rfl
@[simp] theorem qy:pec gl P .nil σ M=.ok (true,M):=Eq.trans rfl rfl
@[simp] theorem zB:pec gl P (.cons a as) σ M=pB (pe gl P a σ M):=Eq.trans rfl rfl
@[simp] theorem qDD:pei gl P (.list a) σ M=(pe gl P a σ M).bind λp=>(tJ (Zw p.2 p.1.1)).bind λs=>.ok (s,p.2):=Eq.trans rfl rfl
@[simp] theorem qDQ:pei gl P (.rng1 a) σ M=(pe gl P a σ M).bind λp=>(tJ (qDe p.1.1)).bind λxs=>.ok ((xs,[]),p.2):=by
 show PR.bind _ _=_;dsimp only;congr 1;funext p;obtain⟨⟨p1,p3⟩,p2⟩:=p;dsimp only;unfold qDe;cases p1<;>first|rfl|skip
 rename_i x;cases x<;>first|rfl|skip
 dsimp only;split<;>rfl
@[simp] theorem qD8:pei gl P (.zip a b) σ M=(pe gl P a σ M).bind λp=>(pe gl P b σ p.2).bind λq=>(tJ (T5 q.2 p.1.1)).bind λs=>(tJ (T5 q.2 q.1.1)).bind λt=>
  .ok ((List.zipWith (λa b=>T.tup [a,b]) s.1 t.1,s.2++t.2),q.2):=Eq.trans rfl rfl
@[simp] theorem qDP:pei gl P (.enum a) σ M=(pe gl P a σ M).bind λp=>(tJ (T5 p.2 p.1.1)).bind λs=>.ok ((Qt 0 s.1,s.2),p.2):=Eq.trans rfl rfl
variable{s:S}{r t u:Ss}
@[simp] theorem qBA(i:Nat):px gl P C (.asg (.name i) e) σ M=(pe gl P e σ M).bind λp=>if (C.contains i&&p.1.2)=true then .ok (.nx (σ.set i (some (thaw p.2.length p.1.1).1)),p.2++(thaw p.2.length p.1.1).2) else if (C.contains (i+1000)&&qCh e)=true then (match p.1.1 with | .lst ts=>.ok (.nx (σ.set i (some (.cell p.2.length))),p.2++[ts])|_=>.stuck) else .ok (.nx (σ.set i (some p.1.1)),p.2):=Eq.trans rfl rfl
@[simp] theorem qEo(is:List Nat):px gl P C (.asg (.tup is) e) σ M=(pe gl P e σ M).bind λp=>match zV (.tup is) p.1.1 σ with|some σ1=>.ok (.nx σ1,p.2)|none=>.stuck:=Eq.trans rfl rfl
@[simp] theorem qEf{o i v:E}:px gl P C (.put o i v) σ M=(pe gl P v σ M).bind λx=>(pe gl P o σ x.2).bind λp=>(pe gl P i σ p.2).bind λk=>(tJ (qDm k.2 p.1.1 k.1.1 x.1.1)).bind λM'=>.ok (.nx σ,M'):=by
 show PR.bind _ _=_;dsimp only;congr 1;funext x;congr 1;funext p;congr 1;funext k;obtain⟨⟨k1,k3⟩,k2⟩:=k;obtain⟨⟨p1,p3⟩,p2⟩:=p;dsimp only;unfold qDm;cases p1<;>first|rfl|skip
 rename_i n;cases k1<;>first|rfl|skip
 rename_i y;cases y<;>first|rfl|skip
 rename_i j;dsimp only;cases h:k2[n]? with
 |none=>rfl
 |some xs=>
  dsimp only[Option.bind_some];have hj:_P.ixN xs.length j=_L.ixN xs.length j:=rfl;rw[hj];cases _L.ixN xs.length j with
  |none=>rfl
  |some j=>rfl
@[simp] theorem qET:px gl P C (.expr e) σ M=(pe gl P e σ M).bind λp=>.ok (.nx σ,p.2):=Eq.trans rfl rfl
@[simp] theorem qFR:px gl P C (.ret e) σ M=(pe gl P e σ M).bind λp=>.ok (.rt p.1,p.2):=Eq.trans rfl rfl
@[simp] theorem qEc:px gl P C (.ifs c t u) σ M=(pB (pe gl P c σ M)).bind λp=>if p.1=true then pxs gl P C t σ p.2 else pxs gl P C u σ p.2:=Eq.trans rfl rfl
@[simp] theorem qEw(g:Tg)(it:Itr):px gl P C (.for_ g it t) σ M=(pei gl P it σ M).bind λp=>jC p.1.2 g (pxs gl P C t) p.1.1 σ p.2:=Eq.trans rfl rfl
@[simp] theorem qDE:px gl P C (.while_ c t) σ M=jy (λσ M=>pB (pe gl P c σ M)) (pxs gl P C t) qB4 σ M:=Eq.trans rfl rfl
@[simp] theorem qEG:px gl P C .stop σ M=.stuck:=Eq.trans rfl rfl
@[simp] theorem qD1:pxs gl P C .nil σ M=.ok (.nx σ,M):=Eq.trans rfl rfl
@[simp] theorem ZX:pxs gl P C (.cons s r) σ M=(px gl P C s σ M).bind λp=>match p.1 with
  | .nx σ1=>pxs gl P C r σ1 p.2
  |o=>.ok (o,p.2):=Eq.trans rfl rfl
@[simp] theorem qFx(x:Bool):pB (.ok (bT x,M))=.ok (x,M):=Eq.trans rfl rfl
@[simp] theorem qGr(x f:Bool):pB (.ok ((T.v (.bl x),f),M))=.ok (x,M):=Eq.trans rfl rfl
@[simp] theorem qDJ:pB .stuck=.stuck:=Eq.trans rfl rfl
@[simp] theorem qDN{α β:Type}(c:Nat)(M:Mem)(f:α->PR β):(PR.exc c M:PR α).bind f=.exc c M:=Eq.trans rfl rfl
end
@[simp] theorem qGw(x:V):T.lf (.v x)=true:=by rw[T.lf]
@[simp] theorem qEV(n:Nat):T.lf (.cell n)=false:=by rw[T.lf]<;>simp
@[simp] theorem qFM(xs:List T):T.lf (.lst xs)=false:=by rw[T.lf]<;>simp
@[simp] theorem qEt(xs:List T):T.lf (.tup xs)=T.lfs xs:=by rw[T.lf]
@[simp] theorem qD5:T.lfs []=true:=by rw[T.lfs]
@[simp] theorem f7(x:T)(xs:List T):T.lfs (x::xs)=(x.lf&&T.lfs xs):=by rw[T.lfs]
@[simp] theorem iT1(i:Int):(iT i).1=.v (.int i):=rfl
@[simp] theorem iT2(i:Int):(iT i).2=true:=rfl
@[simp] theorem bT1(i:Bool):(bT i).1=.v (.bl i):=rfl
@[simp] theorem bT2(i:Bool):(bT i).2=true:=rfl
@[simp] theorem lT1(xs:List T):(lT xs).1=.lst xs:=rfl
@[simp] theorem lT2(xs:List T):(lT xs).2=T.lfs xs:=rfl
@[simp] theorem qFm(x:V):T.isV (.v x)=some x:=rfl
@[simp] theorem qEY(x:List T):T.isV (.lst x)=none:=rfl
@[simp] theorem qEO(x:List T):T.isV (.tup x)=none:=rfl
@[simp] theorem qDK(x:Nat):T.isV (.cell x)=none:=rfl
section
variable{M:Mem}(i j:Int) (xs ys:List T)
@[simp] theorem qE5:qc M .add (.v (.int i)) (.v (.int j))=some (iT (i+j)):=rfl
@[simp] theorem qBw:qc M .sub (.v (.int i)) (.v (.int j))=some (iT (i-j)):=rfl
@[simp] theorem y9:qc M .band (.v (.int i)) (.v (.int j))=some (iT (PySem.Builtin.bitAnd i j)):=rfl
theorem qCH{i j:Int}(h:(-18446744073709551616<i/\i<18446744073709551616)\/(-18446744073709551616<j/\j<18446744073709551616)):qc M .mul (.v (.int i)) (.v (.int j))=some (iT (i*j)):=by
 show (if (small i||small j||(mid i&&mid j))=true then _ else _)=_;rw[if_pos];rcases h with h|h
 ·have:small i=true:=by unfold small two64;exact vi h
  rw[this];rfl
 ·have:small j=true:=by unfold small two64;exact vi h
  rw[this,Bool.or_true];rfl
theorem qAY{i j:Int}(h:0<j/\j<1073741824):qc M .fdiv (.v (.int i)) (.v (.int j))=some (iT (i / j)):=by
 show (if 0<j/\(j<1073741824\/mid j=true) then _ else _)=_;rw[if_pos ⟨h.1,.inl h.2⟩]
theorem k7{i j:Int}(h:0<j):qc M .mod (.v (.int i)) (.v (.int j))=some (iT (i % j)):=by
 show (if 0<j then _ else _)=_;rw[if_pos h]
theorem y3{i j:Int}(h:0<=j/\j<=1000/\i.natAbs<18446744073709551616):qc M .pow (.v (.int i)) (.v (.int j))=some (iT (i ^ j.toNat)):=by
 show (if 0<=j/\j<=1000/\i.natAbs<18446744073709551616 then _ else _)=_;rw[if_pos h]
theorem qCM{i j:Int}(h:0<=j/\j<=1000/\i.natAbs<18446744073709551616):qc M .shl (.v (.int i)) (.v (.int j))=some (iT (i*2 ^ j.toNat)):=by
 show (if 0<=j/\j<=1000/\i.natAbs<18446744073709551616 then _ else _)=_;rw[if_pos h]
theorem QT{xs ys:List T}(h:xs.length+ys.length<=lim):qc M .add (.lst xs) (.lst ys)=some (lT (xs++ys)):=by
 show (if xs.length+ys.length<=lim then _ else _)=_;rw[if_pos h]
@[simp] theorem qDs:qu M .lt (.v (.int i)) (.v (.int j))=some (decide (i<j)):=rfl
@[simp] theorem qDy:qu M .le (.v (.int i)) (.v (.int j))=some (decide (i<=j)):=rfl
@[simp] theorem qD2:qu M .gt (.v (.int i)) (.v (.int j))=some (decide (j<i)):=rfl
@[simp] theorem qDa:qu M .ge (.v (.int i)) (.v (.int j))=some (decide (j<=i)):=rfl
@[simp] theorem qEN:qu M .eq (.v (.int i)) (.v (.int j))=some (decide (i=j)):=by
 show some (i==j)=_;congr 1
@[simp] theorem qEh:zb M .list [.lst xs]=some (lT xs):=rfl
@[simp] theorem qFV:zb M .list [.tup xs]=some (lT xs):=rfl
@[simp] theorem qB5:zb M .max [.v (.int i),.v (.int j)]=some (iT (if j>i then j else i)):=rfl
@[simp] theorem qC4:zb M .min [.v (.int i),.v (.int j)]=some (iT (if j<i then j else i)):=rfl
@[simp] theorem qGQ:zb M .int [.v (.int i)]=some (iT i):=rfl
@[simp] theorem qGs:qh M (.v (.int i))=some "int":=rfl
@[simp] theorem qGj(b:Bool):qh M (.v (.bl b))=some "bool":=rfl
@[simp] theorem qG0:qh M (.lst xs)=some "list":=rfl
@[simp] theorem qGm:qh M (.tup xs)=some "tuple":=rfl
@[simp] theorem qGh(kvs:List (Int×V)):qh M (.ob (.dct kvs))=some "dict":=rfl
@[simp] theorem qGi:qh M (.v .non)=some "NoneType":=rfl
@[simp] theorem qEe:Zw M (.lst xs)=some (xs,[]):=rfl
@[simp] theorem qFU:Zw M (.tup xs)=some (xs,[]):=rfl
@[simp] theorem qFb:Zw M (.fz xs)=some (xs,[]):=rfl
@[simp] theorem qEm:T5 M (.lst xs)=some (xs,[]):=rfl
end
@[simp] theorem lk0{α:Type}(x0:α)(l:List α):(x0::l)[0]?=some x0:=rfl
@[simp] theorem st0{α:Type}(x0 y:α)(l:List α):(x0::l).set 0 y=y::l:=rfl
@[simp] theorem lk1{α:Type}(x0 x1:α)(l:List α):(x0::x1::l)[1]?=some x1:=rfl
@[simp] theorem st1{α:Type}(x0 x1 y:α)(l:List α):(x0::x1::l).set 1 y=x0::y::l:=rfl
@[simp] theorem lk2{α:Type}(x0 x1 x2:α)(l:List α):(x0::x1::x2::l)[2]?=some x2:=rfl
@[simp] theorem st2{α:Type}(x0 x1 x2 y:α)(l:List α):(x0::x1::x2::l).set 2 y=x0::x1::y::l:=rfl
@[simp] theorem lk3{α:Type}(x0 x1 x2 x3:α)(l:List α):(x0::x1::x2::x3::l)[3]?=some x3:=rfl
@[simp] theorem st3{α:Type}(x0 x1 x2 x3 y:α)(l:List α):(x0::x1::x2::x3::l).set 3 y=x0::x1::x2::y::l:=rfl
@[simp] theorem lk4{α:Type}(x0 x1 x2 x3 x4:α)(l:List α):(x0::x1::x2::x3::x4::l)[4]?=some x4:=rfl
@[simp] theorem st4{α:Type}(x0 x1 x2 x3 x4 y:α)(l:List α):(x0::x1::x2::x3::x4::l).set 4 y=x0::x1::x2::x3::y::l:=rfl
@[simp] theorem lk5{α:Type}(x0 x1 x2 x3 x4 x5:α)(l:List α):(x0::x1::x2::x3::x4::x5::l)[5]?=some x5:=rfl
@[simp] theorem st5{α:Type}(x0 x1 x2 x3 x4 x5 y:α)(l:List α):(x0::x1::x2::x3::x4::x5::l).set 5 y=x0::x1::x2::x3::x4::y::l:=rfl
@[simp] theorem lk6{α:Type}(x0 x1 x2 x3 x4 x5 x6:α)(l:List α):(x0::x1::x2::x3::x4::x5::x6::l)[6]?=some x6:=rfl
@[simp] theorem st6{α:Type}(x0 x1 x2 x3 x4 x5 x6 y:α)(l:List α):(x0::x1::x2::x3::x4::x5::x6::l).set 6 y=x0::x1::x2::x3::x4::x5::y::l:=rfl
@[simp] theorem lk7{α:Type}(x0 x1 x2 x3 x4 x5 x6 x7:α)(l:List α):(x0::x1::x2::x3::x4::x5::x6::x7::l)[7]?=some x7:=rfl
@[simp] theorem st7{α:Type}(x0 x1 x2 x3 x4 x5 x6 x7 y:α)(l:List α):(x0::x1::x2::x3::x4::x5::x6::x7::l).set 7 y=x0::x1::x2::x3::x4::x5::x6::y::l:=rfl
@[simp] theorem lk8{α:Type}(x0 x1 x2 x3 x4 x5 x6 x7 x8:α)(l:List α):(x0::x1::x2::x3::x4::x5::x6::x7::x8::l)[8]?=some x8:=rfl
@[simp] theorem st8{α:Type}(x0 x1 x2 x3 x4 x5 x6 x7 x8 y:α)(l:List α):(x0::x1::x2::x3::x4::x5::x6::x7::x8::l).set 8 y=x0::x1::x2::x3::x4::x5::x6::x7::y::l:=rfl
@[simp] theorem lk9{α:Type}(x0 x1 x2 x3 x4 x5 x6 x7 x8 x9:α)(l:List α):(x0::x1::x2::x3::x4::x5::x6::x7::x8::x9::l)[9]?=some x9:=rfl
@[simp] theorem st9{α:Type}(x0 x1 x2 x3 x4 x5 x6 x7 x8 x9 y:α)(l:List α):(x0::x1::x2::x3::x4::x5::x6::x7::x8::x9::l).set 9 y=x0::x1::x2::x3::x4::x5::x6::x7::x8::y::l:=rfl
@[simp] theorem qGq{α:Type}(x0 x1 x2 x3 x4 x5 x6 x7 x8 x9 x10:α)(l:List α):(x0::x1::x2::x3::x4::x5::x6::x7::x8::x9::x10::l)[10]?=some x10:=rfl
@[simp] theorem qGo{α:Type}(x0 x1 x2 x3 x4 x5 x6 x7 x8 x9 x10 y:α)(l:List α):(x0::x1::x2::x3::x4::x5::x6::x7::x8::x9::x10::l).set 10 y=x0::x1::x2::x3::x4::x5::x6::x7::x8::x9::y::l:=rfl
@[simp] theorem qGy{α:Type}(x0 x1 x2 x3 x4 x5 x6 x7 x8 x9 x10 x11:α)(l:List α):(x0::x1::x2::x3::x4::x5::x6::x7::x8::x9::x10::x11::l)[11]?=some x11:=rfl
@[simp] theorem qGk{α:Type}(x0 x1 x2 x3 x4 x5 x6 x7 x8 x9 x10 x11 y:α)(l:List α):(x0::x1::x2::x3::x4::x5::x6::x7::x8::x9::x10::x11::l).set 11 y=x0::x1::x2::x3::x4::x5::x6::x7::x8::x9::x10::y::l:=rfl
@[simp] theorem qGx{α:Type}(x0 x1 x2 x3 x4 x5 x6 x7 x8 x9 x10 x11 x12:α)(l:List α):(x0::x1::x2::x3::x4::x5::x6::x7::x8::x9::x10::x11::x12::l)[12]?=some x12:=rfl
@[simp] theorem qG2{α:Type}(x0 x1 x2 x3 x4 x5 x6 x7 x8 x9 x10 x11 x12 y:α)(l:List α):(x0::x1::x2::x3::x4::x5::x6::x7::x8::x9::x10::x11::x12::l).set 12 y=x0::x1::x2::x3::x4::x5::x6::x7::x8::x9::x10::x11::y::l:=rfl
@[simp] theorem qGu{α:Type}(x0 x1 x2 x3 x4 x5 x6 x7 x8 x9 x10 x11 x12 x13:α)(l:List α):(x0::x1::x2::x3::x4::x5::x6::x7::x8::x9::x10::x11::x12::x13::l)[13]?=some x13:=rfl
@[simp] theorem qG1{α:Type}(x0 x1 x2 x3 x4 x5 x6 x7 x8 x9 x10 x11 x12 x13 y:α)(l:List α):(x0::x1::x2::x3::x4::x5::x6::x7::x8::x9::x10::x11::x12::x13::l).set 13 y=x0::x1::x2::x3::x4::x5::x6::x7::x8::x9::x10::x11::x12::y::l:=rfl
@[simp] theorem qGv{α:Type}(x0 x1 x2 x3 x4 x5 x6 x7 x8 x9 x10 x11 x12 x13 x14:α)(l:List α):(x0::x1::x2::x3::x4::x5::x6::x7::x8::x9::x10::x11::x12::x13::x14::l)[14]?=some x14:=rfl
@[simp] theorem qGn{α:Type}(x0 x1 x2 x3 x4 x5 x6 x7 x8 x9 x10 x11 x12 x13 x14 y:α)(l:List α):(x0::x1::x2::x3::x4::x5::x6::x7::x8::x9::x10::x11::x12::x13::x14::l).set 14 y=x0::x1::x2::x3::x4::x5::x6::x7::x8::x9::x10::x11::x12::x13::y::l:=rfl
@[simp] theorem qGl{α:Type}(x0 x1 x2 x3 x4 x5 x6 x7 x8 x9 x10 x11 x12 x13 x14 x15:α)(l:List α):(x0::x1::x2::x3::x4::x5::x6::x7::x8::x9::x10::x11::x12::x13::x14::x15::l)[15]?=some x15:=rfl
@[simp] theorem qGz{α:Type}(x0 x1 x2 x3 x4 x5 x6 x7 x8 x9 x10 x11 x12 x13 x14 x15 y:α)(l:List α):(x0::x1::x2::x3::x4::x5::x6::x7::x8::x9::x10::x11::x12::x13::x14::x15::l).set 15 y=x0::x1::x2::x3::x4::x5::x6::x7::x8::x9::x10::x11::x12::x13::x14::y::l:=rfl
theorem qT{gl:List T}{tb:List Fn}{Cs:List (List Nat)}{k f:Nat}{vs:List T}{M:Mem}{np ns:Nat}{b:Ss}(ht:tb[f]?=some ⟨np,ns,b⟩)(hl:vs.length=np/\np<=ns)(hk:1<=k):
  Pk gl tb Cs k f vs M=V7 M.length (pxs gl (Pk gl tb Cs (k-1)) (Cs.getD f []) b (vs.map some++List.replicate (ns-np) none) M):=by
 obtain⟨k,rfl⟩:∃j,k=j+1:=⟨k-1,by omega⟩
 rw[Pk,ht];dsimp only;rw[if_pos hl];rfl
theorem qA{M M1:Mem}{t:TB}(h:M1.length=M.length):V7 M.length (.ok (.rt t,M1))=.ok (t,M1):=by
 show QA M.length t M1=_;unfold QA;rw[if_pos h]
noncomputable def N(n:Nat):T:=.v (.int (n:Int))
noncomputable def NL(L:List Nat):T:=.lst (L.map N)
theorem qAR(n:Nat):qx 0 n=(List.range n).map N:=by
 unfold qx N;simp
theorem W1(L:List Nat):T.lfs (L.map N)=true:=by
 induction L with
 |nil=>rfl
 |cons x L ih=>rw[List.map_cons,f7,ih];rfl
theorem qGa(n:Nat):(N n).lf=true:=by unfold N;rfl
theorem JV:∀L:List Nat,zu (L.map N)=some (L.map λ(n:Nat)=>V.int (n:Int))
 | []=>rfl
 |x::L=>by
  show (zu (L.map N)).map _=_;rw[JV L];rfl
theorem qFC{M:Mem}(n:Nat)(L:List Nat):qu M .inn (N n) (NL L)=some (decide (n∈L)):=by
 show ((zu (L.map N)).map λxs=>xs.any λz=>_L.eqV z (.int (n:Int)))=_;rw[JV,Option.map_some,List.any_map];congr 1;rw[wx];simp only[vc,Function.comp,vj];constructor
 ·rintro⟨x,hx,e⟩;have:x=n:=by
   have e':((x:Int)==(n:Int))=true:=e;rw[beq_iff_eq]at e';omega
  rwa [<-this]
 ·intro h;refine⟨n,h,?_⟩;show ((n:Int)==(n:Int))=true;rw[vp]
theorem Q6{M:Mem}(n:Nat)(L:List Nat):qu M .notin (N n) (NL L)=some (!decide (n∈L)):=by
 have:=qFC (M:=M) n L;show (inT M (N n) (NL L)).map (!·)=_;rw[show inT M (N n) (NL L)=some (decide (n∈L)) from this];rfl
theorem C8{M:Mem}{d:Nat}:∀(L K:List Nat),L.length=K.length->zg (eqT M d) (L.map N) (K.map N)=some (List.zipWith (λ(a b:Nat)=>decide (a=b)) L K)
 | [],[],_=>rfl
 | [],_::_,h=>by simp at h
 |_::_,[],h=>by simp at h
 |a::L,b::K,h=>by
  have e:eqT M d (N a) (N b)=some (decide (a=b)):=by
   have:eqF (.int (a:Int)) (.int (b:Int))=some (decide (a=b)):=by
    show some ((a:Int)==(b:Int))=_;congr 1;rw[wx,beq_iff_eq,vj];omega
   cases d<;>(unfold eqT;exact this)
  rw[List.map_cons,List.map_cons,zg,e,C8 L K (by simpa using h)];rfl
theorem T3:∀(L K:List Nat),L.length=K.length->((List.zipWith (λ(a b:Nat)=>decide (a=b)) L K).all id=decide (L=K))
 | [],[],_=>rfl
 | [],_::_,h=>by simp at h
 |_::_,[],h=>by simp at h
 |a::L,b::K,h=>by
  rw[List.zipWith_cons_cons,List.all_cons,T3 L K (by simpa using h)];by_cases h1:a=b<;>by_cases h2:L=K<;>simp[h1,h2]
theorem qBu{M:Mem}{d:Nat}(L K:List Nat):eqT M (d+1) (NL L) (NL K)=some (decide (L=K)):=by
 unfold eqT;show (if (L.map N).length=(K.map N).length then (zg (eqT M d) (L.map N) (K.map N)).map (λbs=>bs.all id) else some false)=_;rw[wG,wG];by_cases h:L.length=K.length
 ·rw[if_pos h,C8 L K h,Option.map_some,T3 L K h]
 ·rw[if_neg h];congr 1;symm;exact vh (λe=>h (by rw[e]))
@[simp] theorem qBd{d:ZH}{g:Tg}{b:TS->Mem->RSt}{σ:TS}{M:Mem}:jC d g b [] σ M=.ok (.nx σ,M):=rfl
@[simp] theorem qe{i:Nat}{b:TS->Mem->RSt}{x:T}{r:List T}{σ:TS}{M:Mem}:jC [] (.name i) b (x::r) σ M=(b (σ.set i (some x)) M).bind λp=>match p.1 with
   | .nx σ2=>jC [] (.name i) b r σ2 p.2
   | .ct σ2=>jC [] (.name i) b r σ2 p.2
   | .bk σ2=>.ok (.nx σ2,p.2)
   | .rt t=>.ok (.rt t,p.2):=rfl
theorem JD{c:TS->Mem->PR (Bool×Mem)}{e:TS->Mem->PR (TB×Mem)}{M:Mem}{σ:TS}(p:Nat->Bool)(f:Nat->T)(fr:Nat->Bool):∀(its:List Nat) (ys:List T) (b:Bool) (o:Option T),ys.length+its.length<=lim ->
  (∀x∈its,c (some (N x)::σ) M=.ok (p x,M))->(∀x∈its,p x=true->e (some (N x)::σ) M=.ok ((f x,fr x),M)) ->
  ql [] (.name 0) c e (its.map N) ys b (o::σ) M=.ok ((.lst (ys++(its.filter p).map f),b&&(its.filter p).all fr),M)
 | [],ys,b,o,hl,hc,he=>by simp[ql]
 |x::r,ys,b,o,hl,hc,he=>by
  rw[List.map_cons];unfold ql;rw[show zV (.name 0) (N x) (o::σ)=some (some (N x)::σ) from rfl];dsimp only;rw[hc x (wP ..)];rw[tD];dsimp only;cases hp:p x with
  |true=>
   rw[if_pos rfl,he x (wP ..) hp,tD];dsimp only;rw[if_pos ⟨by simp at hl;omega,rfl⟩];rw[JD p f fr r (ys++[f x]) (b&&fr x) (some (N x)) (by simp at hl ⊢;omega) (λy hy=>hc y (wN _ hy)) (λy hy=>he y (wN _ hy))];rw[vJ hp];simp[Bool.and_assoc]
  |false=>
   rw[if_neg (by decide),if_pos (show qk [] M=true from rfl)];rw[JD p f fr r ys b (some (N x)) (by simp at hl ⊢;omega) (λy hy=>hc y (wN _ hy)) (λy hy=>he y (wN _ hy))];rw[vW (by rw[hp];decide)]
theorem Jt{c:TS->Mem->PR (Bool×Mem)}{e:TS->Mem->PR (TB×Mem)}{M:Mem}{σ:TS}{o:Option T}{its:List Nat}(p:Nat->Bool)(g:Nat->Nat)(hl:its.length<=lim)
  (hc:∀x∈its,c (some (N x)::σ) M=.ok (p x,M)) (he:∀x∈its,p x=true->e (some (N x)::σ) M=.ok ((N (g x),true),M)):
  ql [] (.name 0) c e (its.map N) [] true (o::σ) M=.ok ((NL ((its.filter p).map g),true),M):=by
 rw[JD p (λx=>N (g x)) (λ_=>true) its [] true o (by simpa using hl) hc he];unfold NL;simp
 all_goals rfl
@[simp] theorem jY{M:Mem}(a b:Nat):qc M .add (N a) (N b)=some (N (a+b),true):=by unfold N;simp[iT]
theorem jQ(L:List Nat):T.lf (NL L)=false:=by unfold NL;simp
noncomputable def nE(n:Nat):E:=.cst (.int (n:Int))
@[simp] theorem qF2{gl:List T}{P:Nat->List T->Mem->PR (TB×Mem)}{σ:TS}{M:Mem}(n:Nat):pe gl P (nE n) σ M=.ok ((N n,true),M):=by unfold nE;rw[pe_int];rfl
section
variable{M:Mem}(a b:Nat) (xs:List T)
@[simp] theorem lfN:(N a).lf=true:=qGa a
@[simp] theorem qGR:(N a).isV=some (.int (a:Int)):=rfl
@[simp] theorem qGp:qh M (N a)=some "int":=rfl
@[simp] theorem qFs(L:List Nat):qh M (NL L)=some "list":=rfl
theorem V1{a b:Nat}(h:b<=a):qc M .sub (N a) (N b)=some (N (a-b),true):=by
 unfold N;rw[qBw];unfold iT;rw[Int.ofNat_sub h]
theorem F7{a b:Nat}(h:a<18446744073709551616\/b<18446744073709551616):qc M .mul (N a) (N b)=some (N (a*b),true):=by
 unfold N;rw[qCH (by omega)];unfold iT;simp
theorem Jn{a b:Nat}(h:0<b/\b<1073741824):qc M .fdiv (N a) (N b)=some (N (a / b),true):=by
 unfold N;rw[qAY (by omega)];unfold iT;simp
theorem Qy{a b:Nat}(h:0<b):qc M .mod (N a) (N b)=some (N (a % b),true):=by
 unfold N;rw[k7 (by omega)];unfold iT;simp
theorem qCd{a b:Nat}(h:b<=1000/\a<1000000):qc M .pow (N a) (N b)=some (N (a ^ b),true):=by
 unfold N;rw[y3 (by omega)];unfold iT;simp
theorem D8{a b:Nat}(h:b<=1000/\a<1000000):qc M .shl (N a) (N b)=some (N (a*2 ^ b),true):=by
 unfold N;rw[qCM (by omega)];unfold iT;simp
@[simp] theorem qFu:qu M .lt (N a) (N b)=some (decide (a<b)):=by unfold N;rw[qDs];simp
@[simp] theorem qGA:qu M .le (N a) (N b)=some (decide (a<=b)):=by unfold N;rw[qDy];simp
@[simp] theorem qDx:qu M .gt (N a) (N b)=some (decide (b<a)):=by unfold N;rw[qD2];simp
@[simp] theorem qEA:qu M .ge (N a) (N b)=some (decide (b<=a)):=by unfold N;rw[qDa];simp
@[simp] theorem qBq:qu M .eq (N a) (N b)=some (decide (a=b)):=by unfold N;rw[qEN];congr 1;rw[wx,vj,vj];omega
@[simp] theorem O2:qu M .ne (N a) (N b)=some (!decide (a=b)):=by
 show ((eqT M 4 (N a) (N b)).map (!·))=_;rw[show eqT M 4 (N a) (N b)=some (decide (a=b)) from qBq (M:=M) a b];rfl
@[simp] theorem zi:QH M (.lst xs) (N a)=(xs[a]?).map λt=>(t,t.lf):=by
 show ((_L.ixN xs.length (a:Int)).bind λj=>(xs[j]?).map λt=>(t,t.lf))=_;unfold _L.ixN;rw[if_pos (by omega)];split
 ·simp
 ·rw[List.getElem?_eq_none (by omega)];rfl
@[simp] theorem qV:QH M (.tup xs) (N a)=(xs[a]?).map λt=>(t,t.lf):=by
 show ((_L.ixN xs.length (a:Int)).bind λj=>(xs[j]?).map λt=>(t,t.lf))=_;unfold _L.ixN;rw[if_pos (by omega)];split
 ·simp
 ·rw[List.getElem?_eq_none (by omega)];rfl
@[simp] theorem QF:zb M .len [.lst xs]=some (N xs.length,true):=rfl
@[simp] theorem qg:zb M .len [.tup xs]=some (N xs.length,true):=rfl
@[simp] theorem qFf:zb M .len [.fz xs]=some (N xs.length,true):=rfl
@[simp] theorem qEi:zb M .max [N a,N b]=some (N (max a b),true):=by
 unfold N;rw[qB5];unfold iT;congr 4;split<;>omega
@[simp] theorem qE4:zb M .min [N a,N b]=some (N (min a b),true):=by
 unfold N;rw[qC4];unfold iT;congr 4;split<;>omega
@[simp] theorem qGW:zb M .int [N a]=some (N a,true):=rfl
@[simp] theorem qE3(t:Bool):zb M .int [.v (.bl t)]=some (N t.toNat,true):=by cases t<;>rfl
@[simp] theorem qE8:zb M .bits [N a]=some (N (PySem.Builtin.Int.intBits (a:Int)),true):=rfl
theorem A8:qc M .band (N a) (N b)=some (N (a&&& b),true):=by
 unfold N;rw[y9];unfold iT;rfl
end
theorem E8{n:Nat}(hn:n<=1000000):qDe (N n)=some ((List.range n).map N):=by
 show (if -1000000<=(n:Int)/\(n:Int)<=1000000 then some (qx 0 (n:Int).toNat) else none)=_;rw[if_pos (by omega),wk,qAR]
@[simp] theorem qEj(n a:Nat):thaw n (N a)=(N a,[]):=by unfold N;simp[thaw]
@[simp] theorem qFQ{M:Mem}(L:List Nat):Zw M (NL L)=some (L.map N,[]):=rfl
@[simp] theorem qE0{M:Mem}(x f:Bool):pB (PR.ok ((T.v (V.bl x),f),M))=.ok (x,M):=Eq.trans rfl rfl
theorem jq{α:Type}:∀l:List α,l.filter (λ_=>true)=l
 | []=>rfl
 |x::l=>by rw[vJ rfl,jq l]
@[simp] theorem qFz{M:Mem}{n j:Nat}{x:T}:qDm M (.cell n) (N j) x=(M[n]?).bind λxs=>if j<xs.length then some (M.set n (xs.set j x)) else none:=by
 show ((M[n]?).bind λxs=>(_L.ixN xs.length (j:Int)).map λj=>M.set n (xs.set j x))=_;congr 1
 funext xs
 unfold _L.ixN;rw[if_pos (by omega)];by_cases h:j<xs.length
 ·rw[if_pos (by omega),if_pos h];simp
 ·rw[if_neg (by omega),if_neg h];rfl
@[simp] theorem qGU{M:Mem}{n a:Nat}:QH M (.cell n) (N a)=(M[n]?).bind λxs=>(xs[a]?).map λt=>(t,t.lf):=by
 show ((M[n]?).bind λxs=>(_L.ixN xs.length (a:Int)).bind λj=>(xs[j]?).map λt=>(t,t.lf))=_;congr 1
 funext xs
 exact zi (M:=M) a xs
@[simp] theorem qFI(a:Nat):qDH (N a)=some (iT (-(a:Int))):=rfl
@[simp] theorem qFY(a:Int):qDH (.v (.int a))=some (iT (-a)):=rfl
@[simp] theorem qGD(a:Nat):qX [N a]=some [(a:Int)]:=rfl
@[simp] theorem qGF:qX []=some []:=rfl
@[simp] theorem qF4{M:Mem}(xs:List T):T.its M (.lst xs)=some xs:=rfl
@[simp] theorem qGM{M:Mem}(xs:List T):T.its M (.fz xs)=some xs:=rfl
@[simp] theorem qGG{M:Mem}(xs:List T):T.its M (.tup xs)=some xs:=rfl
@[simp] theorem qFq{M:Mem}(L:List Nat):T.its M (NL L)=some (L.map N):=rfl
@[simp] theorem qFd(ys xs:List T)(lo hi:Option Int):Y1 (.lst ys) xs lo hi=some (lT (ji xs lo hi)):=rfl
@[simp] theorem qEz(ys xs:List T)(lo hi:Option Int):Y1 (.fz ys) xs lo hi=some (lT (ji xs lo hi)):=rfl
@[simp] theorem qFF(L:List Nat)(xs:List T)(lo hi:Option Int):Y1 (NL L) xs lo hi=some (lT (ji xs lo hi)):=rfl
@[simp] theorem qEs(n:Nat)(xs:List T)(lo hi:Option Int):Y1 (.cell n) xs lo hi=some (lT (ji xs lo hi)):=rfl
@[simp] theorem qFj{M:Mem}(xs:List T):T.lis M (.lst xs)=some xs:=rfl
@[simp] theorem qGc{M:Mem}(xs:List T):T.lis M (.fz xs)=some xs:=rfl
@[simp] theorem qGL{M:Mem}(L:List Nat):T.lis M (NL L)=some (L.map N):=rfl
@[simp] theorem qDC(i j:Nat)(a b:T)(σ:TS):zV (.tup [i,j]) (.tup [a,b]) σ=some ((σ.set i (some a)).set j (some b)):=rfl
@[simp] theorem qBR(σ:TS):QB [] σ=[]:=rfl
@[simp] theorem qBI(r:List (Option Nat))(σ:TS):QB (none::r) σ=none::QB r σ:=rfl
@[simp] theorem qA5(j:Nat)(r:List (Option Nat))(σ:TS):QB (some j::r) σ=(σ[j]?).join::QB r σ:=rfl
theorem P5(x:V)(f:Bool)(M1:Mem):∃b M2,V7 ([]:Mem).length (.ok (.rt (.v x,f),M1))=.ok ((.v x,b),M2):=by
 show ∃b M2,QA 0 (.v x,f) M1=_;unfold QA;by_cases h:M1.length=0
 ·rw[if_pos h];exact⟨f,M1,rfl⟩
 ·rw[if_neg h,if_pos (by simp)];rw[show qY M1 0 6 (T.v x)=some (.v x) by unfold qY;rw[if_pos (by unfold T.und;rfl)]];exact⟨_,_,rfl⟩
mutual
theorem j5:∀t:T,T.beq t t=true
 | .v x=>by unfold T.beq;simp
 | .cell x=>by unfold T.beq;simp
 | .ob x=>by unfold T.beq;simp
 | .fz xs=>by unfold T.beq;exact zm xs
 | .lst xs=>by unfold T.beq;exact zm xs
 | .tup xs=>by unfold T.beq;exact zm xs
theorem zm:∀ts:List T,T.beqs ts ts=true
 | []=>rfl
 |t::ts=>by unfold T.beqs;rw[j5 t,zm ts];rfl
end
mutual
theorem i4{a b:Nat}(h:a<=b):∀t:T,t.und a=true->t.und b=true
 | .v x,_=>rfl
 | .cell k,e=>by unfold T.und at e ⊢;simp at e ⊢;omega
 | .ob x,_=>rfl
 | .fz xs,e=>by unfold T.und at e ⊢;exact zZ h xs e
 | .lst xs,e=>by unfold T.und at e ⊢;exact zZ h xs e
 | .tup xs,e=>by unfold T.und at e ⊢;exact zZ h xs e
theorem zZ{a b:Nat}(h:a<=b):∀ts:List T,T.unds a ts=true->T.unds b ts=true
 | [],_=>rfl
 |t::ts,e=>by unfold T.unds at e ⊢;rw[wB]at e;rw[i4 h t e.1,zZ h ts e.2];rfl
end
def FlatM(M:Mem):Prop:=∀c∈M,T.unds 0 c=true
theorem FlatM.all{M:Mem}(h:FlatM M)(n:Nat):M.all (T.unds n)=true:=by
 rw[wb];exact λc hc=>zZ (wu _) c (h c hc)
theorem FlatM.app{A B:Mem}(h:FlatM A)(k:FlatM B):FlatM (A++B):=λc hc=>by
 rcases wJ.mp hc with z|z
 ·exact h c z
 ·exact k c z
theorem v5{M:Mem}{n:Nat}{ts:List T}(h:M[n]?=some ts):qk [(n,ts)] M=true:=by
 unfold qk;simp[h,zm]
theorem F1{M:Mem}{n:Nat}{ts:List T}(h:M[n]?=some ts):Zw M (.cell n)=some (ts,[(n,ts)]):=by
 unfold Zw;dsimp only;rw[h];rfl
theorem qE9{M:Mem}{n:Nat}{ts:List T}(h:M[n]?=some ts):qh M (.cell n)=some "list":=by
 unfold qh;dsimp only;rw[h];rfl
structure IsL(M:Mem)(t:T)(L:List Nat):Prop where
 its:t.its M=some (L.map N)
 lis:t.lis M=some (L.map N)
 ty:qh M t=some "list"
 src:∃d,Zw M t=some (L.map N,d)/\T5 M t=some (L.map N,d)/\qk d M=true
 nv:t.isV=none
theorem IsL.nl(M:Mem)(L:List Nat):IsL M (NL L) L:=⟨rfl,rfl,rfl,⟨[],rfl,rfl,rfl⟩,rfl⟩
theorem IsL.cell{M:Mem}{n:Nat}{L:List Nat}(h:M[n]?=some (L.map N)):IsL M (.cell n) L:=⟨h,h,qE9 h,⟨_,F1 h,F1 h,v5 h⟩,rfl⟩
section
variable{M:Mem}{t u:T}{L K:List Nat}
theorem IsL.len(h:IsL M t L):zb M .len [t]=some (N L.length,true):=by
 show (t.its M).map _=_;rw[h.its,Option.map_some,wG];rfl
theorem IsL.list(h:IsL M t L):zb M .list [t]=some (NL L,true):=by
 show (t.its M).map lT=_;rw[h.its,Option.map_some];show some (T.lst (L.map N),T.lfs (L.map N))=_;rw[W1];rfl
theorem y8:∀L:List Nat,qX (L.map N)=some (L.map λ(n:Nat)=>(n:Int))
 | []=>rfl
 |x::L=>by
  show (qX (L.map N)).map _=_;rw[y8 L];rfl
theorem r9:∀L:List Nat,jN (L.map N)=some (L.map λ(n:Nat)=>(n:Int))
 | []=>rfl
 |x::L=>by
  show (jN (L.map N)).map _=_;rw[r9 L];rfl
theorem D4:∀L:List Nat,(L.map λ(n:Nat)=>(n:Int)).sum=((L.sum:Nat):Int)
 | []=>rfl
 |x::L=>by rw[List.map_cons,List.sum_cons,D4 L,List.sum_cons];simp
theorem IsL.sum(h:IsL M t L):zb M .sum [t]=some (N L.sum,true):=by
 show (t.lis M).bind _=_;rw[h.lis,Option.bind_some,r9,Option.map_some,D4];rfl
theorem IsL.idx(h:IsL M t L){i:Nat}{x:Nat}(e:L[i]?=some x):QH M t (N i)=some (N x,true):=by
 show ((t.its M).bind λxs=>(_L.ixN xs.length (i:Int)).bind λj=>(xs[j]?).map λt=>(t,t.lf))=_;rw[h.its,Option.bind_some];have:=zi (M:=M) i (L.map N);rw[show QH M (.lst (L.map N)) (N i)=((_L.ixN (L.map N).length (i:Int)).bind λj=>((L.map N)[j]?).map λt=>(t,t.lf)) from rfl]at this;rw[this,we,e];simp
theorem IsL.eq(h:IsL M t L)(k:IsL M u K):eqT M 4 t u=some (decide (L=K)):=by
 have:=qBu (M:=M) (d:=3) L K;unfold eqT at this ⊢;rw[h.nv,k.nv,h.lis,k.lis];exact this
theorem IsL.cne(h:IsL M t L)(k:IsL M u K):qu M .ne t u=some (!decide (L=K)):=by
 show (eqT M 4 t u).map (!·)=_;rw[h.eq k];rfl
end
theorem JN{xs:List T}{m:Nat}(h:m<=xs.length):ji xs none (some (m:Int))=xs.take m:=by
 unfold ji;rw[_H.sIx_none,_H.sIx_nat,Nat.min_eq_left h,List.drop_zero,Nat.sub_zero]
theorem JQ{xs:List T}{m:Nat}(h:m<=xs.length):ji xs (some (m:Int)) none=xs.drop m:=by
 unfold ji;rw[_H.sIx_none,_H.sIx_nat,Nat.min_eq_left h];exact vY (by simp)
theorem V3{α:Type}(p:α->Bool):∀L:List α,zQ (L.map λx=>T.v (.bl (p x)))=some (L.map p)
 | []=>rfl
 |x::L=>by
  show (zQ (L.map λx=>T.v (.bl (p x)))).map _=_;rw[V3 p L];rfl
theorem qAg{M:Mem}{α:Type}(p:α->Bool)(L:List α):zb M .all [.lst (L.map λx=>T.v (.bl (p x)))]=some (bT (L.all p)):=by
 show (zQ _).map _=_;rw[V3,Option.map_some,List.all_map];rfl
theorem qEE{M:Mem}(a b:Bool):qu M .ne (.v (.bl a)) (.v (.bl b))=some (!(a==b)):=rfl
theorem getD_some{L:List Nat}{i:Nat}(h:i<L.length):L[i]?=some (L.getD i 0):=by
 rw[wg,wE h];rfl
def IsS(M:Mem)(t:T)(ts:List T):Prop:=t=.lst ts\/∃m,t=.cell m/\M[m]?=some ts
section
variable{M C:Mem}{t:T}{ts:List T}
theorem IsS.app(h:IsS M t ts):IsS (M++C) t ts:=by
 rcases h with h|⟨m,h,e⟩
 ·exact .inl h
 ·exact .inr ⟨m,h,by rw[wD (wC.mp e).1];exact e⟩
theorem IsS.its(h:IsS M t ts):t.its M=some ts:=by rcases h with rfl|⟨m,rfl,e⟩;rfl;exact e
theorem IsS.lis(h:IsS M t ts):t.lis M=some ts:=by rcases h with rfl|⟨m,rfl,e⟩;rfl;exact e
theorem IsS.ty(h:IsS M t ts):qh M t=some "list":=by rcases h with rfl|⟨m,rfl,e⟩;rfl;exact qE9 e
theorem IsS.nv(h:IsS M t ts):t.isV=none:=by rcases h with rfl|⟨m,rfl,e⟩<;>rfl
theorem IsS.lf(h:IsS M t ts):t.lf=false:=by rcases h with rfl|⟨m,rfl,e⟩<;>simp
theorem IsS.src(h:IsS M t ts):∃d,Zw M t=some (ts,d)/\T5 M t=some (ts,d)/\∀C,qk d (M++C)=true:=by
 rcases h with rfl|⟨m,rfl,e⟩
 ·exact⟨[],rfl,rfl,λ_=>rfl⟩
 ·exact⟨_,F1 e,F1 e,λC=>v5 (by rw[wD (wC.mp e).1];exact e)⟩
theorem IsS.len(h:IsS M t ts):zb M .len [t]=some (N ts.length,true):=by
 show (t.its M).map _=_;rw[h.its,Option.map_some];rfl
theorem IsS.idx(h:IsS M t ts)(i:Nat):QH M t (N i)=(ts[i]?).map λt=>(t,t.lf):=by
 have a:QH M t (N i)=QH M (.lst ts) (N i):=by
  show (t.its M).bind _=_;rw[h.its];rfl
 rw[a,zi]
theorem IsS.list(h:IsS M t ts):zb M .list [t]=some (lT ts):=by
 show (t.its M).map lT=_;rw[h.its];rfl
theorem IsS.eqT{u:T}{us:List T}{d:Nat}{bs:List Bool}(h:IsS M t ts)(k:IsS M u us)(hl:ts.length=us.length)(e:zg (eqT M d) ts us=some bs):_P.eqT M (d+1) t u=some (bs.all id):=by
 unfold _P.eqT;rw[h.nv,k.nv,h.lis,k.lis];dsimp only;rw[if_pos hl,e];rfl
end
def WfM(M:Mem):Prop:=M.all (T.unds M.length)=true
theorem WfM.app{M C:Mem}(h:WfM M)(hC:∀c∈C,T.unds (M++C).length c=true):WfM (M++C):=by
 unfold WfM at *;rw[wb]at h ⊢;intro c hc;rcases wJ.mp hc with z|z
 ·exact zZ (by simp) c (h c z)
 ·exact hC c z
theorem WfM.one{M:Mem}(h:WfM M){ts:List T}(l:T.lfs ts=true):WfM (M++[ts]):=h.app λc hc=>by rw[wU.mp hc];exact Ju _ _ l
section
variable{gl:List T}{P:Nat->List T->Mem->PR (TB×Mem)}{M:Mem}{t:T}{l:TS}
@[simp high] theorem qFw:pe gl P (.var 0) (some t::l) M=.ok ((t,t.lf),M):=Eq.trans rfl rfl
@[simp high] theorem qF5{x0:Option T}:pe gl P (.var 1) (x0::some t::l) M=.ok ((t,t.lf),M):=Eq.trans rfl rfl
@[simp high] theorem qGH{x0 x1:Option T}:pe gl P (.var 2) (x0::x1::some t::l) M=.ok ((t,t.lf),M):=Eq.trans rfl rfl
@[simp high] theorem qF9{x0 x1 x2:Option T}:pe gl P (.var 3) (x0::x1::x2::some t::l) M=.ok ((t,t.lf),M):=Eq.trans rfl rfl
@[simp high] theorem qGX{x0 x1 x2 x3:Option T}:pe gl P (.var 4) (x0::x1::x2::x3::some t::l) M=.ok ((t,t.lf),M):=Eq.trans rfl rfl
@[simp high] theorem qFk{x0 x1 x2 x3 x4:Option T}:pe gl P (.var 5) (x0::x1::x2::x3::x4::some t::l) M=.ok ((t,t.lf),M):=Eq.trans rfl rfl
@[simp high] theorem qGN{x0 x1 x2 x3 x4 x5:Option T}:pe gl P (.var 6) (x0::x1::x2::x3::x4::x5::some t::l) M=.ok ((t,t.lf),M):=Eq.trans rfl rfl
@[simp high] theorem qGP{x0 x1 x2 x3 x4 x5 x6:Option T}:pe gl P (.var 7) (x0::x1::x2::x3::x4::x5::x6::some t::l) M=.ok ((t,t.lf),M):=Eq.trans rfl rfl
@[simp high] theorem qF6{x0 x1 x2 x3 x4 x5 x6 x7:Option T}:pe gl P (.var 8) (x0::x1::x2::x3::x4::x5::x6::x7::some t::l) M=.ok ((t,t.lf),M):=Eq.trans rfl rfl
@[simp high] theorem qFt{x0 x1 x2 x3 x4 x5 x6 x7 x8:Option T}:pe gl P (.var 9) (x0::x1::x2::x3::x4::x5::x6::x7::x8::some t::l) M=.ok ((t,t.lf),M):=Eq.trans rfl rfl
@[simp high] theorem qFP{x0 x1 x2 x3 x4 x5 x6 x7 x8 x9:Option T}:pe gl P (.var 10) (x0::x1::x2::x3::x4::x5::x6::x7::x8::x9::some t::l) M=.ok ((t,t.lf),M):=Eq.trans rfl rfl
@[simp high] theorem qEx{x0 x1 x2 x3 x4 x5 x6 x7 x8 x9 x10:Option T}:pe gl P (.var 11) (x0::x1::x2::x3::x4::x5::x6::x7::x8::x9::x10::some t::l) M=.ok ((t,t.lf),M):=Eq.trans rfl rfl
@[simp high] theorem qE1{x0 x1 x2 x3 x4 x5 x6 x7 x8 x9 x10 x11:Option T}:pe gl P (.var 12) (x0::x1::x2::x3::x4::x5::x6::x7::x8::x9::x10::x11::some t::l) M=.ok ((t,t.lf),M):=Eq.trans rfl rfl
@[simp high] theorem qE6{x0 x1 x2 x3 x4 x5 x6 x7 x8 x9 x10 x11 x12:Option T}:pe gl P (.var 13) (x0::x1::x2::x3::x4::x5::x6::x7::x8::x9::x10::x11::x12::some t::l) M=.ok ((t,t.lf),M):=Eq.trans rfl rfl
@[simp high] theorem qFX{y z:Option T}:(y::l:TS).set 0 z=z::l:=Eq.trans rfl rfl
@[simp high] theorem qFc{x0 y z:Option T}:(x0::y::l:TS).set 1 z=x0::z::l:=Eq.trans rfl rfl
@[simp high] theorem qFK{x0 x1 y z:Option T}:(x0::x1::y::l:TS).set 2 z=x0::x1::z::l:=Eq.trans rfl rfl
@[simp high] theorem qE2{x0 x1 x2 y z:Option T}:(x0::x1::x2::y::l:TS).set 3 z=x0::x1::x2::z::l:=Eq.trans rfl rfl
@[simp high] theorem qEg{x0 x1 x2 x3 y z:Option T}:(x0::x1::x2::x3::y::l:TS).set 4 z=x0::x1::x2::x3::z::l:=Eq.trans rfl rfl
@[simp high] theorem qEy{x0 x1 x2 x3 x4 y z:Option T}:(x0::x1::x2::x3::x4::y::l:TS).set 5 z=x0::x1::x2::x3::x4::z::l:=Eq.trans rfl rfl
@[simp high] theorem qFe{x0 x1 x2 x3 x4 x5 y z:Option T}:(x0::x1::x2::x3::x4::x5::y::l:TS).set 6 z=x0::x1::x2::x3::x4::x5::z::l:=Eq.trans rfl rfl
@[simp high] theorem qEv{x0 x1 x2 x3 x4 x5 x6 y z:Option T}:(x0::x1::x2::x3::x4::x5::x6::y::l:TS).set 7 z=x0::x1::x2::x3::x4::x5::x6::z::l:=Eq.trans rfl rfl
@[simp high] theorem qFN{x0 x1 x2 x3 x4 x5 x6 x7 y z:Option T}:(x0::x1::x2::x3::x4::x5::x6::x7::y::l:TS).set 8 z=x0::x1::x2::x3::x4::x5::x6::x7::z::l:=Eq.trans rfl rfl
@[simp high] theorem qFS{x0 x1 x2 x3 x4 x5 x6 x7 x8 y z:Option T}:(x0::x1::x2::x3::x4::x5::x6::x7::x8::y::l:TS).set 9 z=x0::x1::x2::x3::x4::x5::x6::x7::x8::z::l:=Eq.trans rfl rfl
@[simp high] theorem qER{x0 x1 x2 x3 x4 x5 x6 x7 x8 x9 y z:Option T}:(x0::x1::x2::x3::x4::x5::x6::x7::x8::x9::y::l:TS).set 10 z=x0::x1::x2::x3::x4::x5::x6::x7::x8::x9::z::l:=Eq.trans rfl rfl
@[simp high] theorem qDi{x0 x1 x2 x3 x4 x5 x6 x7 x8 x9 x10 y z:Option T}:(x0::x1::x2::x3::x4::x5::x6::x7::x8::x9::x10::y::l:TS).set 11 z=x0::x1::x2::x3::x4::x5::x6::x7::x8::x9::x10::z::l:=Eq.trans rfl rfl
@[simp high] theorem qDo{x0 x1 x2 x3 x4 x5 x6 x7 x8 x9 x10 x11 y z:Option T}:(x0::x1::x2::x3::x4::x5::x6::x7::x8::x9::x10::x11::y::l:TS).set 12 z=x0::x1::x2::x3::x4::x5::x6::x7::x8::x9::x10::x11::z::l:=Eq.trans rfl rfl
@[simp high] theorem qEQ{x0 x1 x2 x3 x4 x5 x6 x7 x8 x9 x10 x11 x12 y z:Option T}:(x0::x1::x2::x3::x4::x5::x6::x7::x8::x9::x10::x11::x12::y::l:TS).set 13 z=x0::x1::x2::x3::x4::x5::x6::x7::x8::x9::x10::x11::x12::z::l:=Eq.trans rfl rfl
variable{σ:TS}{C:List Nat}{e:E}{i:Nat}
theorem qDv(h:(C.contains i||C.contains (i+1000))=false):px gl P C (.asg (.name i) e) σ M=(pe gl P e σ M).bind λp=>.ok (.nx (σ.set i (some p.1.1)),p.2):=by
 rw[Bool.or_eq_false_iff]at h;rw[qBA,h.1,h.2];rfl
@[simp high] theorem qFL:px gl P [] (.asg (.name i) e) σ M=(pe gl P e σ M).bind λp=>.ok (.nx (σ.set i (some p.1.1)),p.2):=qDv rfl
variable{s:S}{r t0 u0:Ss}{σ':TS}{M':Mem}{c:E}{b:Bool}
end
theorem dT{p:Prop}{h:Decidable p}(hp:p):decide p=true:=vi hp
end _P
namespace _M
open PySem PySem.Spec PyProof.Rows _L _P
noncomputable def top(i:Nat):Stmt:=PySem.Challenge.pw_healhalves_k70_what_is_a_plan.main.body.getD i (.Pass ⟨0,0,0,0⟩)
noncomputable def Tb:Tbl:=⟨[⟨"is_whole",top 3,["thing"],["thing"]⟩,
 ⟨"is_number_below",top 4,["thing","end"],["thing","end"]⟩,
 ⟨"is_list_below",top 5,["thing","end"],["thing","end"]⟩,
 ⟨"is_rising",top 6,["thing","end"],["thing","end","least","number"]⟩,
 ⟨"length_of",top 7,["size"],["size"]⟩,
 ⟨"is_size",top 8,["thing"],["thing"]⟩,
 ⟨"is_reached",top 10,["place","spot"],["place","spot"]⟩,
 ⟨"is_plan",top 13,["thing"],["thing","length"]⟩,
 ⟨"is_known_rightly",top 14,["sendings","known","spot"],["sendings","known","spot","reaching"]⟩,
 ⟨"_law_bag",top 16,["_law_script","_law_k"],["_law_script","_law_k","_law_cell","_law_great"]⟩,
 ⟨"_law_out",top 17,["_law_bag_here","_law_many"],["_law_bag_here","_law_many","_law_found"]⟩,
 ⟨"_law_whole",top 18,["_law_thing"],["_law_thing"]⟩,
 ⟨"_law_plan",top 19,["_law_bag_here"],["_law_bag_here","_law_size","_law_many","_law_way","_law_start","_law_known","_law_most"]⟩,
 ⟨"_law_is_plan",top 20,["_law_thing"],["_law_thing","_law_many","_law_last","_law_spot"]⟩,
 ⟨"_law_bent",top 21,["_law_bag_here","_law_plan_here"],["_law_bag_here","_law_plan_here","_law_size","_law_often","_law_known","_law_many","_law_way","_law_at","_law_place","_law_odd","_law_some"]⟩,
 ⟨"law",top 22,["_law_script"],["_law_script","_law_k","_law_bag_here","_law_plan_here","_law_bent_here","_law_thing","_law_kept","_law_found"]⟩],
 [("LENGTHS",E.glob 0),("GREATEST_SIZE",E.cst (.int 5)),("MOST_SENDINGS",E.cst (.int 6))],
 ["len","all","max","min","list","int","tuple","range","isinstance","bool","sorted","repr","set"],[],[]⟩
noncomputable def gs:List O:=[O.tup [V.int 1,V.int 2,V.int 4,V.int 8,V.int 16,V.int 32]]
end _M
namespace _M
open PySem PySem.Spec _P
open _L (V)
noncomputable def b0:Ss:=(.cons (.ret (.and (.isi (.var 0) ["int"]) (.not (.isi (.var 0) ["bool"])))) .nil)
theorem t0:Tb.fns[0]?=some ⟨1,1,b0⟩:=by kernel_rfl
noncomputable def b1:Ss:=(.cons (.ret (.and (.call 0 (.cons (.var 0) .nil)) (.cmp2 .le .lt (nE 0) (.var 0) (.var 1)))) .nil)
theorem t1:Tb.fns[1]?=some ⟨2,2,b1⟩:=by kernel_rfl
noncomputable def b2:Ss:=(.cons (.ret (.and (.isi (.var 0) ["list"]) (.blt .all (.cons (.comp (.list (.var 0)) [none,some 1] (.name 0) .nil (.call 1 (.cons (.var 0) (.cons (.var 1) .nil)))) .nil)))) .nil)
theorem t2:Tb.fns[2]?=some ⟨2,2,b2⟩:=by kernel_rfl
noncomputable def qBU:Ss:=(.cons (.ifs (.or (.not (.call 1 (.cons (.var 3) (.cons (.var 1) .nil)))) (.cmp .lt (.var 3) (.var 2))) (.cons (.ret (.cst (V.bl false))) .nil) .nil) (.cons (.asg (.name 2) (.bin .add (.var 3) (nE 1))) .nil))
noncomputable def b3:Ss:=(.cons (.ifs (.not (.isi (.var 0) ["list"])) (.cons (.ret (.cst (V.bl false))) .nil) .nil) (.cons (.asg (.name 2) (nE 0)) (.cons (.for_ (.name 3) (.list (.var 0)) qBU) (.cons (.ret (.cst (V.bl true))) .nil))))
theorem t3:Tb.fns[3]?=some ⟨2,4,b3⟩:=by kernel_rfl
noncomputable def b4:Ss:=(.cons (.ret (.idx (.glob 0) (.var 0))) .nil)
theorem t4:Tb.fns[4]?=some ⟨1,1,b4⟩:=by kernel_rfl
noncomputable def b5:Ss:=(.cons (.ret (.and (.call 0 (.cons (.var 0) .nil)) (.cmp2 .le .le (nE 1) (.var 0) (nE 5)))) .nil)
theorem t5:Tb.fns[5]?=some ⟨1,1,b5⟩:=by kernel_rfl
noncomputable def b6:Ss:=(.cons (.ret (.cmp .eq (.bin .band (.var 0) (.var 1)) (.var 1))) .nil)
theorem t6:Tb.fns[6]?=some ⟨2,2,b6⟩:=by kernel_rfl
noncomputable def b7:Ss:=(.cons (.ifs (.or (.not (.isi (.var 0) ["tuple"])) (.or (.cmp .ne (.blt .len (.cons (.var 0) .nil)) (nE 3)) (.not (.call 5 (.cons (.idx (.var 0) (nE 0)) .nil))))) (.cons (.ret (.cst (V.bl false))) .nil) .nil) (.cons (.asg (.name 1) (.call 4 (.cons (.idx (.var 0) (nE 0)) .nil))) (.cons (.ifs (.or (.not (.call 2 (.cons (.idx (.var 0) (nE 1)) (.cons (.bin .add (nE 6) (nE 1)) .nil)))) (.cmp .ne (.blt .len (.cons (.idx (.var 0) (nE 1)) .nil)) (.var 1))) (.cons (.ret (.cst (V.bl false))) .nil) .nil) (.cons (.ret (.and (.call 3 (.cons (.idx (.var 0) (nE 2)) (.cons (.var 1) .nil))) (.blt .all (.cons (.comp (.list (.idx (.var 0) (nE 2))) [none,some 0] (.name 0) .nil (.call 8 (.cons (.idx (.var 1) (nE 1)) (.cons (.idx (.var 1) (nE 2)) (.cons (.var 0) .nil))))) .nil)))) .nil))))
theorem t7:Tb.fns[7]?=some ⟨1,2,b7⟩:=by kernel_rfl
noncomputable def b8:Ss:=(.cons (.asg (.name 3) (.comp (.rng1 (.blt .len (.cons (.var 0) .nil))) [none,some 2] (.name 0) (.cons (.call 6 (.cons (.var 0) (.cons (.var 1) .nil))) .nil) (.var 0))) (.cons (.ret (.and (.cmp .eq (.idx (.var 0) (.var 2)) (nE 0)) (.blt .all (.cons (.comp (.list (.var 3)) [none,some 1] (.name 0) .nil (.cmp .inn (.var 0) (.var 1))) .nil)))) .nil))
theorem t8:Tb.fns[8]?=some ⟨3,4,b8⟩:=by kernel_rfl
noncomputable def b9:Ss:=(.cons (.asg (.name 2) (nE 0)) (.cons (.ifs (.cmp .lt (.var 1) (.blt .len (.cons (.var 0) .nil))) (.cons (.asg (.name 2) (.idx (.var 0) (.var 1))) .nil) .nil) (.cons (.asg (.name 3) (nE 0)) (.cons (.ifs (.cmp .ge (.var 2) (.bin .pow (nE 10) (nE 18))) (.cons (.asg (.name 3) (.var 2)) .nil) .nil) (.cons (.ret (.lst (.cons (.var 3) (.cons (.bin .mod (.bin .pow (.bin .add (.bin .add (.bin .mod (.var 2) (nE 998244353)) (.bin .mul (nE 7368787) (.var 1))) (nE 17)) (nE 3)) (nE 2147483629)) .nil)))) .nil)))))
theorem t9:Tb.fns[9]?=some ⟨2,4,b9⟩:=by kernel_rfl
noncomputable def b10:Ss:=(.cons (.ifs (.cmp .gt (.idx (.var 0) (nE 0)) (nE 0)) (.cons (.asg (.name 2) (.bin .mod (.idx (.var 0) (nE 0)) (.var 1))) (.cons (.put (.var 0) (nE 0) (.bin .fdiv (.idx (.var 0) (nE 0)) (.var 1))) (.cons (.ret (.var 2)) .nil))) .nil) (.cons (.put (.var 0) (nE 1) (.bin .mod (.bin .add (.bin .mul (.idx (.var 0) (nE 1)) (nE 40692)) (nE 12345)) (nE 2147483399))) (.cons (.ret (.bin .mod (.bin .fdiv (.bin .mod (.bin .mul (.idx (.var 0) (nE 1)) (.bin .add (.bin .fdiv (.idx (.var 0) (nE 1)) (nE 1024)) (nE 7))) (nE 2147483647)) (nE 32)) (.var 1))) .nil)))
theorem t10:Tb.fns[10]?=some ⟨2,3,b10⟩:=by kernel_rfl
noncomputable def b11:Ss:=(.cons (.ret (.and (.isi (.var 0) ["int"]) (.not (.isi (.var 0) ["bool"])))) .nil)
theorem t11:Tb.fns[11]?=some ⟨1,1,b11⟩:=by kernel_rfl
noncomputable def b12:Ss:=(.cons (.asg (.name 1) (.bin .add (nE 1) (.call 10 (.cons (.var 0) (.cons (nE 5) .nil))))) (.cons (.asg (.name 2) (.bin .shl (nE 1) (.var 1))) (.cons (.asg (.name 3) (.call 10 (.cons (.var 0) (.cons (nE 3) .nil)))) (.cons (.asg (.name 4) (.call 10 (.cons (.var 0) (.cons (.var 2) .nil)))) (.cons (.asg (.name 5) (.comp (.rng1 (.var 2)) [none,some 4,some 3] (.name 0) (.cons (.or (.and (.cmp .eq (.var 2) (nE 1)) (.cmp .ge (.var 0) (.var 1))) (.and (.cmp .eq (.var 2) (nE 2)) (.cmp .eq (.bin .band (.var 0) (.var 1)) (.var 1)))) .nil) (.var 0))) (.cons (.asg (.name 6) (.idx (.lst (.cons (nE 2) (.cons (nE 7) .nil))) (.call 10 (.cons (.var 0) (.cons (nE 2) .nil))))) (.cons (.ret (.tup (.cons (.var 1) (.cons (.comp (.rng1 (.var 2)) [none,some 0,some 5,some 6] (.name 0) .nil (.bin .mul (.call 10 (.cons (.var 1) (.cons (.var 3) .nil))) (.blt .int (.cons (.cmp .notin (.var 0) (.var 2)) .nil)))) (.cons (.var 5) .nil))))) .nil)))))))
theorem t12:Tb.fns[12]?=some ⟨1,7,b12⟩:=by kernel_rfl
noncomputable def h8:Ss:=(.cons (.ifs (.cmp .ne (.comp (.rng1 (.var 1)) [none,some 3,some 0] (.name 0) (.cons (.and (.cmp .eq (.bin .band (.var 0) (.var 1)) (.var 1)) (.cmp .notin (.var 0) (.idx (.var 2) (nE 2)))) .nil) (.var 0)) (.lst .nil)) (.cons (.ret (.cst (V.bl false))) .nil) .nil) .nil)
noncomputable def Jk:Ss:=(.cons (.ifs (.or (.not (.call 11 (.cons (.var 3) .nil))) (.or (.not (.cmp2 .lt .lt (.var 2) (.var 3) (.var 1))) (.cmp .ne (.idx (.idx (.var 0) (nE 1)) (.var 3)) (nE 0)))) (.cons (.ret (.cst (V.bl false))) .nil) .nil) (.cons (.asg (.name 2) (.var 3)) .nil))
noncomputable def b13:Ss:=(.cons (.ifs (.or (.not (.isi (.var 0) ["tuple"])) (.or (.cmp .ne (.blt .len (.cons (.var 0) .nil)) (nE 3)) (.or (.not (.call 11 (.cons (.idx (.var 0) (nE 0)) .nil))) (.not (.cmp2 .le .le (nE 1) (.idx (.var 0) (nE 0)) (nE 5)))))) (.cons (.ret (.cst (V.bl false))) .nil) .nil) (.cons (.asg (.name 1) (.bin .shl (nE 1) (.idx (.var 0) (nE 0)))) (.cons (.ifs (.or (.not (.isi (.idx (.var 0) (nE 1)) ["list"])) (.or (.cmp .ne (.blt .len (.cons (.idx (.var 0) (nE 1)) .nil)) (.var 1)) (.not (.isi (.idx (.var 0) (nE 2)) ["list"])))) (.cons (.ret (.cst (V.bl false))) .nil) .nil) (.cons (.ifs (.cmp .ne (.comp (.list (.idx (.var 0) (nE 1))) [none] (.name 0) (.cons (.or (.not (.call 11 (.cons (.var 0) .nil))) (.not (.cmp2 .le .le (nE 0) (.var 0) (nE 6)))) .nil) (.var 0)) (.lst .nil)) (.cons (.ret (.cst (V.bl false))) .nil) .nil) (.cons (.asg (.name 2) (.bin .sub (nE 0) (nE 1))) (.cons (.for_ (.name 3) (.list (.idx (.var 0) (nE 2))) Jk) (.cons (.for_ (.name 3) (.list (.idx (.var 0) (nE 2))) h8) (.cons (.ret (.cst (V.bl true))) .nil))))))))
theorem t13:Tb.fns[13]?=some ⟨1,4,b13⟩:=by kernel_rfl
noncomputable def b14:Ss:=(.cons (.asg (.tup [2,3,4]) (.var 1)) (.cons (.asg (.name 5) (.blt .len (.cons (.var 3) .nil))) (.cons (.asg (.name 6) (.call 10 (.cons (.var 0) (.cons (nE 30) .nil)))) (.cons (.asg (.name 7) (.call 10 (.cons (.var 0) (.cons (.var 5) .nil)))) (.cons (.asg (.name 8) (.call 10 (.cons (.var 0) (.cons (.bin .add (.blt .len (.cons (.var 4) .nil)) (nE 1)) .nil)))) (.cons (.ifs (.cmp .lt (.var 6) (nE 7)) (.cons (.asg (.name 9) (.idx (.lst (.cons (nE 7) (.cons (.bin .sub (nE 0) (nE 1)) (.cons (.cst (V.bl true)) (.cons (.cst V.non) (.cons (.cst (V.str "1")) (.cons (nE 1) (.cons (nE 6) .nil)))))))) (.var 6))) (.cons (.ifs (.and (.cmp .gt (.var 6) (nE 4)) (.cmp .ne (.var 4) (.lst .nil))) (.cons (.asg (.name 7) (.idx (.var 4) (.bin .mod (.var 8) (.blt .len (.cons (.var 4) .nil))))) .nil) .nil) (.cons (.ret (.tup (.cons (.var 2) (.cons (.bin .add (.bin .add (.sl (.var 3) .nil (.cons (.var 7) .nil)) (.lst (.cons (.var 9) .nil))) (.sl (.var 3) (.cons (.bin .add (.var 7) (nE 1)) .nil) .nil)) (.cons (.var 4) .nil))))) .nil))) .nil) (.cons (.ifs (.cmp .lt (.var 6) (nE 16)) (.cons (.asg (.name 10) (.lst (.cons (.bin .add (.sl (.var 4) .nil (.cons (.var 8) .nil)) (.sl (.var 4) (.cons (.bin .add (.var 8) (nE 1)) .nil) .nil)) (.cons (.rev (.var 4)) (.cons (.bin .add (.var 4) (.sl (.var 4) (.cons (.neg (nE 1)) .nil) .nil)) (.cons (.sset (.bin .add (.var 4) (.lst (.cons (.var 7) .nil)))) .nil)))))) (.cons (.asg (.name 10) (.bin .add (.var 10) (.comp (.list (.lst (.cons (.cst (V.bl true)) (.cons (.cst V.non) (.cons (.cst (V.str "0")) (.cons (.lst (.cons (nE 0) .nil)) .nil)))))) [none,some 4,some 8] (.name 0) .nil (.bin .add (.bin .add (.sl (.var 1) .nil (.cons (.var 2) .nil)) (.lst (.cons (.var 0) .nil))) (.sl (.var 1) (.cons (.var 2) .nil) .nil))))) (.cons (.ret (.tup (.cons (.var 2) (.cons (.var 3) (.cons (.idx (.bin .add (.var 10) (.lst (.cons (.bin .add (.var 4) (.lst (.cons (.var 5) .nil))) .nil))) (.bin .sub (.var 6) (nE 7))) .nil))))) .nil))) .nil) (.cons (.ifs (.cmp .lt (.var 6) (nE 22)) (.cons (.ret (.tup (.cons (.idx (.lst (.cons (.bin .add (.var 2) (nE 1)) (.cons (.bin .sub (.var 2) (nE 1)) (.cons (.cst (V.bl true)) (.cons (.cst V.non) (.cons (.cst (V.str "2")) (.cons (.tup (.cons (nE 1) .nil)) .nil))))))) (.bin .sub (.var 6) (nE 16))) (.cons (.var 3) (.cons (.var 4) .nil))))) .nil) .nil) (.cons (.asg (.name 10) (.lst (.cons (.tup (.cons (.var 2) (.cons (.bin .add (.var 3) (.lst (.cons (nE 0) .nil))) (.cons (.var 4) .nil)))) (.cons (.tup (.cons (.var 2) (.cons (.sl (.var 3) (.cons (nE 1) .nil) .nil) (.cons (.var 4) .nil)))) (.cons (.tup (.cons (.var 2) (.cons (.blt .tuple (.cons (.var 3) .nil)) (.cons (.var 4) .nil)))) .nil))))) (.cons (.asg (.name 10) (.bin .add (.var 10) (.lst (.cons (.tup (.cons (.var 2) (.cons (.var 3) (.cons (.blt .tuple (.cons (.var 4) .nil)) .nil)))) (.cons (.lst (.cons (.var 2) (.cons (.var 3) (.cons (.var 4) .nil)))) (.cons (.tup (.cons (.var 2) (.cons (.var 3) .nil))) (.cons (.tup (.cons (.var 2) (.cons (.var 3) (.cons (.var 4) (.cons (nE 0) .nil))))) (.cons (.cst V.non) .nil)))))))) (.cons (.ret (.idx (.bin .add (.var 10) (.lst (.cons (.tup (.cons (.var 2) (.cons (.cst V.non) (.cons (.var 4) .nil)))) (.cons (.tup (.cons (.var 2) (.cons (.var 3) (.cons (.cst V.non) .nil)))) .nil)))) (.call 10 (.cons (.var 0) (.cons (nE 10) .nil))))) .nil)))))))))))
theorem t14:Tb.fns[14]?=some ⟨2,11,b14⟩:=by kernel_rfl
noncomputable def S8:Ss:=(.cons (.asg (.name 6) (.blt .repr (.cons (.var 5) .nil))) (.cons (.asg (.name 7) (.call 7 (.cons (.var 5) .nil))) (.cons (.ifs (.or (.not (.isi (.var 7) ["bool"])) (.or (.cmp .ne (.var 7) (.call 13 (.cons (.var 5) .nil))) (.cmp .ne (.blt .repr (.cons (.var 5) .nil)) (.var 6)))) (.cons (.ret (.cst (V.bl false))) .nil) .nil) .nil)))
noncomputable def Z9:Ss:=(.cons (.asg (.name 2) (.call 9 (.cons (.var 0) (.cons (.var 1) .nil)))) (.cons (.asg (.name 3) (.call 12 (.cons (.var 2) .nil))) (.cons (.ifs (.not (.call 13 (.cons (.var 3) .nil))) (.cons (.ret (.cst (V.bl false))) .nil) .nil) (.cons (.asg (.name 4) (.call 14 (.cons (.var 2) (.cons (.var 3) .nil)))) (.cons (.for_ (.name 5) (.list (.lst (.cons (.var 3) (.cons (.var 4) (.cons (.var 3) .nil))))) S8) .nil)))))
noncomputable def b15:Ss:=(.cons (.for_ (.name 1) (.rng1 (.blt .max (.cons (nE 1) (.cons (.blt .min (.cons (.blt .len (.cons (.var 0) .nil)) (.cons (nE 40) .nil))) .nil)))) Z9) (.cons (.ret (.cst (V.bl true))) .nil))
theorem t15:Tb.fns[15]?=some ⟨1,8,b15⟩:=by kernel_rfl
noncomputable def Cs:List (List Nat):=List.replicate 15 []++[[2]]
theorem gl0:(glT gs)[0]?=some (.tup [N 1,N 2,N 4,N 8,N 16,N 32]):=rfl
section
variable{k:Nat}
noncomputable abbrev I(x:Int):T:=.v (.int x)
noncomputable def stT(g s:Nat):List T:=[N g,N s]
def qAN(M:Mem)(n:Nat):Prop:=∃g s,M[n]?=some (stT g s)/\s<2147483648
structure Kept(n:Nat)(M M':Mem):Prop where
 good:qAN M' n
 len:M'.length=M.length
 oth:∀j,j≠n->M'[j]?=M[j]?
theorem Kept.trans{n:Nat}{A B C:Mem}(x:Kept n A B)(y:Kept n B C):Kept n A C:=⟨y.good,y.len.trans x.len,λj hj=>(y.oth j hj).trans (x.oth j hj)⟩
theorem qGd(hk:1<=k){M:Mem}{n m g s:Nat}(hm:0<m/\m<=1000000)(hg:0<g)(e:M[n]?=some [N g,N s])(e':∀y,(M.set n y)[n]?=some y):
  Pk (glT gs) Tb.fns Cs k 10 [.cell n,N m] M=.ok ((N (g % m),true),M.set n [N (g / m),N s]):=by
 rw[qT t10 ⟨rfl,by decide⟩ hk,b10,show Cs.getD 10 []=[] from rfl];simp(disch:=omega) [Qy,Jn,e,e',hg];rw[qA (by simp)]
theorem qF8(hk:1<=k){M:Mem}{n m s:Nat}(hm:0<m/\m<=1000000)(e:M[n]?=some [N 0,N s])(e':∀y,(M.set n y)[n]?=some y){s':Nat}(hs':(s*40692+12345) % 2147483399=s')(hq:s'<2147483399):
  Pk (glT gs) Tb.fns Cs k 10 [.cell n,N m] M=.ok ((N (s' * (s' / 1024+7) % 2147483647 / 32 % m),true),M.set n [N 0,N s']):=by
 rw[qT t10 ⟨rfl,by decide⟩ hk,b10,show Cs.getD 10 []=[] from rfl];have ml1:∀{M:Mem}(x:Nat),qc M .mul (N x) (N 40692)=some (N (x*40692),true):=λ{M} x=>F7 (.inr (by decide));have ml3:∀{M:Mem}(y:Nat),qc M .mul (N s') (N y)=some (N (s' * y),true):=λ{M} y=>F7 (.inl (wq hq (by decide)));have md1:∀{M:Mem}(x:Nat),qc M .mod (N x) (N 2147483399)=some (N (x % 2147483399),true):=λ{M} x=>Qy (by decide);have md2:∀{M:Mem}(x:Nat),qc M .mod (N x) (N 2147483647)=some (N (x % 2147483647),true):=λ{M} x=>Qy (by decide);have md3:∀{M:Mem}(x:Nat),qc M .mod (N x) (N m)=some (N (x % m),true):=λ{M} x=>Qy hm.1;have fd1:∀{M:Mem}(x:Nat),qc M .fdiv (N x) (N 1024)=some (N (x / 1024),true):=λ{M} x=>Jn (by decide);have fd2:∀{M:Mem}(x:Nat),qc M .fdiv (N x) (N 32)=some (N (x / 32),true):=λ{M} x=>Jn (by decide);simp[hs',ml1,ml3,md1,md2,md3,fd1,fd2,e,e'];rw[qA (by simp)]
theorem out(hk:1<=k){M:Mem}{n m:Nat}(g:qAN M n)(hm:0<m/\m<=1000000):∃d M',Pk (glT gs) Tb.fns Cs k 10 [.cell n,N m] M=.ok ((N d,true),M')/\d<m/\Kept n M M':=by
 obtain⟨a,s,e,hb⟩:=g;have hn:n<M.length:=(wC.mp e).1;have e':∀y,(M.set n y)[n]?=some y:=λy=>wj hn;rcases Nat.eq_zero_or_pos a with rfl|hp
 ·have hq:(s*40692+12345) % 2147483399<2147483399:=vb _ (by decide);exact⟨_,_,qF8 hk hm e e' rfl hq,vb _ hm.1,⟨⟨0,_,e' _,wq hq (by decide)⟩,by simp,λj hj=>by rw[wa (Ne.symm hj)]⟩⟩
 ·exact⟨_,_,qGd hk hm hp e e',vb _ hm.1,⟨⟨a / m,s,e' _,hb⟩,by simp,λj hj=>by rw[wa (Ne.symm hj)]⟩⟩
theorem qD7{M:Mem}:qc M .pow (N 10) (N 18)=some (N 1000000000000000000,true):=by rw[qCd (by decide)]
theorem qFE(hk:1<=k){S:List T}{kk:Nat}(hkk:kk<=63)(M:Mem){cl:Int}(hc:(kk<S.length/\S[kk]?=some (I cl))\/(S.length<=kk/\cl=0)):∃g s,Pk (glT gs) Tb.fns Cs k 9 [.fz S,N kk] M=.ok ((.lst (stT g s),true),M)/\s<2147483648:=by
 obtain⟨c,hcc⟩:∃c:Nat,cl % 998244353=(c:Int):=⟨(cl % 998244353).toNat,by omega⟩
 have cb:c<998244353:=by omega
 have md:∀{M:Mem},qc M .mod (I cl) (N 998244353)=some (N c,true):=λ{M}=>by
  show qc M .mod (.v (.int cl)) (.v (.int 998244353))=_;rw[k7 (by decide)];unfold iT;rw[hcc];rfl
 have m1:∀{M:Mem},qc M .mul (N 7368787) (N kk)=some (N (7368787*kk),true):=λ{M}=>F7 (.inl (by decide));have pw:∀{M:Mem},qc M .pow (N (c+7368787*kk+17)) (N 3)=some (N ((c+7368787*kk+17) ^ 3),true):=λ{M}=>by
  unfold N;rw[y3 (by omega)];unfold iT;simp
 have md2:∀{M:Mem}(x:Nat),qc M .mod (N x) (N 2147483629)=some (N (x % 2147483629),true):=λ{M} x=>Qy (by decide);have hs:(c+7368787*kk+17) ^ 3 % 2147483629<2147483648:=wq (vb _ (by decide)) (by decide);generalize (c+7368787*kk+17) ^ 3=q at pw hs;have ge:∀{M:Mem},qu M .ge (I cl) (N 1000000000000000000)=some (decide (1000000000000000000<=cl)):=λ{M}=>rfl;by_cases hg:(1000000000000000000:Int)<=cl
 ·obtain⟨gn,rfl⟩:∃gn:Nat,cl=(gn:Int):=⟨cl.toNat,by omega⟩
  refine⟨gn,q % 2147483629,?_,hs⟩;rw[vi hg]at ge;rcases hc with⟨h1,h2⟩|⟨h1,h2⟩
  ·have ix:∀{M:Mem},QH M (.fz S) (N kk)=some (I gn,true):=λ{M}=>by
    show ((some S).bind λxs=>(_L.ixN xs.length (kk:Int)).bind λj=>(xs[j]?).map λt=>(t,t.lf))=_;rw[Option.bind_some];unfold _L.ixN;rw[if_pos (by omega),if_pos (by omega),Option.bind_some,wk,h2];rfl
   rw[qT t9 ⟨rfl,by decide⟩ hk,b9,show Cs.getD 9 []=[] from rfl];simp[h1,ix,qD7,ge,md,m1,pw,md2,lim,stT];rw[qA rfl];rfl
  ·omega
 ·rw[vh hg]at ge;refine⟨0,q % 2147483629,?_,hs⟩;rcases hc with⟨h1,h2⟩|⟨h1,h2⟩
  ·have ix:∀{M:Mem},QH M (.fz S) (N kk)=some (I cl,true):=λ{M}=>by
    show ((some S).bind λxs=>(_L.ixN xs.length (kk:Int)).bind λj=>(xs[j]?).map λt=>(t,t.lf))=_;rw[Option.bind_some];unfold _L.ixN;rw[if_pos (by omega),if_pos (by omega),Option.bind_some,wk,h2];rfl
   rw[qT t9 ⟨rfl,by decide⟩ hk,b9,show Cs.getD 9 []=[] from rfl];simp[h1,ix,qD7,ge,md,m1,pw,md2,lim,stT];rw[qA rfl]
  ·subst h2;have h1':¬ kk<S.length:=by omega
   rw[show I 0=N 0 from rfl]at md ge;have ge:∀{M:Mem},qu M .ge (N 0) (N 1000000000000000000)=some false:=λ{M}=>ge;have md:∀{M:Mem},qc M .mod (N 0) (N 998244353)=some (N c,true):=λ{M}=>md;rw[qT t9 ⟨rfl,by decide⟩ hk,b9,show Cs.getD 9 []=[] from rfl];simp[h1',qD7,ge,md,m1,pw,md2,lim,stT,-qEA];rw[qA rfl]
theorem bag(hk:1<=k)(ns:List Int){kk:Nat}(hkk:kk<=63)(M:Mem):∃g s,Pk (glT gs) Tb.fns Cs k 9 [.fz (ns.map λn=>.v (.int n)),N kk] M=.ok ((.lst (stT g s),true),M)/\s<2147483648:=by
 by_cases h:kk<ns.length
 ·exact qFE hk hkk M (cl:=ns[kk]) (.inl ⟨by simpa using h,by rw[we,wE h];rfl⟩)
 ·exact qFE hk hkk M (cl:=0) (.inr ⟨by simp;omega,rfl⟩)
end
end _M
namespace _M
open PySem PySem.Spec _P
open _L (V)
def Bd(i:Int):Prop:=i.natAbs<2 ^ 110
theorem Bd.log{i:Int}(h:Bd i):i.natAbs.log2<120:=by
 rcases Nat.eq_zero_or_pos i.natAbs with z|z
 ·rw[z];decide
 ·have:=(Nat.log2_lt (by omega)).mpr h;omega
theorem Bd.len{i:Int}(h:Bd i):(Str.ofString (toString i)).length<=121:=by
 rw[ofString_length];exact int_text_length_le (by decide) h.log
def Fit(d:PyData)(n:Nat):Prop:=d.showable=true/\d.shown.length<=n
theorem d6(ts:List Str):(tupleText ts).length<=piled ts+3:=by
 unfold tupleText;rw[Str.length_append,Str.length_append];have e1:(("(":String):Str).length=1:=rfl;have e2:((if ts.length==1 then ",)" else ")":String):Str).length<=2:=by split<;>decide
 cases ts with
 |nil=>
  have:(Str.join ", " []).length=0:=rfl;omega
 |cons t r=>
  have:=join_length_add (t::r) (by simp);omega
theorem U3:∀(ts:List Str) (k:Nat) (acc:Str),(textFrom k acc ts).length<=acc.length+piled ts
 | [],k,acc=>by show acc.length<=_;rw[piled_nil];omega
 |t::r,k,acc=>by
  have:=U3 r (k+1) (acc++(if k>0 then ", " else "":String)++t);show (textFrom (k+1) (acc++(if k>0 then ", " else "":String)++t) r).length<=_;rw[Str.length_append,Str.length_append]at this;rw[piled_cons];have e:((if k>0 then ", " else "":String):Str).length<=2:=by split<;>decide
  omega
theorem ZQ:∀{ds:List PyData}{n:Nat},(∀d∈ds,Fit d n)->PyData.showableAll ds=true/\piled (PyData.shownAll ds)<=ds.length*(n+2)
 | [],n,h=>⟨rfl,wu _⟩
 |d::r,n,h=>by
  obtain⟨a,b⟩:=ZQ (ds:=r) λx hx=>h x (by simp[hx]);obtain⟨c,e⟩:=h d (by simp);refine⟨by show (d.showable&&PyData.showableAll r)=true;rw[c,a];rfl,?_⟩;show piled (d.shown::PyData.shownAll r)<=_;rw[piled_cons,List.length_cons,Nat.succ_mul];omega
theorem qBO{ds:List PyData}{n m:Nat}(h:∀d∈ds,Fit d n)(hm:ds.length*(n+2)+3<=m):Fit (.tuple ds) m:=by
 obtain⟨a,b⟩:=ZQ h;refine⟨a,?_⟩;show (tupleText (PyData.shownAll ds)).length<=_;have c:=d6 (PyData.shownAll ds);omega
theorem qAO{ds:List PyData}{n m:Nat}(h:∀d∈ds,Fit d n)(hm:ds.length*(n+2)+3<=m):Fit (.list ds) m:=by
 obtain⟨a,b⟩:=ZQ h;refine⟨a,?_⟩;show (listText (PyData.shownAll ds)).length<=_;unfold listText;rw[Str.length_append];have c:=U3 (PyData.shownAll ds) 0 "[";have e1:(("[":String):Str).length=1:=rfl;have e2:(("]":String):Str).length=1:=rfl;omega
theorem qAr{i:Int}(h:Bd i):Fit (.int i) 200:=⟨vi (by have:=h.log;omega),wM h.len (by decide)⟩
theorem Fit.mono{d:PyData}{n m:Nat}(h:Fit d n)(l:n<=m):Fit d m:=⟨h.1,wM h.2 l⟩
theorem C2{f:Mem->T->Option PyData}{n:Nat}:∀{ts:List T},(∀t∈ts,∃d,(∀M:Mem,f M t=some d)/\Fit d n)->∃ds,(∀M:Mem,QL (f M) ts=some ds)/\ds.length=ts.length/\∀d∈ds,Fit d n
 | [],_=>⟨[],λ_=>rfl,rfl,λd hd=>by simp at hd⟩
 |t::ts,h=>by
  obtain⟨d,e1,f1⟩:=h t (by simp);obtain⟨ds,e2,l2,f2⟩:=C2 (ts:=ts) λt ht=>h t (by simp[ht]);refine⟨d::ds,λM=>?_,by simp[l2],λx hx=>?_⟩
  ·rw[QL,e1 M,Option.bind_some,e2 M];rfl
  ·rcases wI.mp hx with rfl|hx
   ·exact f1
   ·exact f2 x hx
def Sh(n m:Nat)(t:T):Prop:=∃d,(∀M:Mem,F0 M n t=some d)/\Fit d m
theorem Sh.lst{n m m':Nat}{ts:List T}(h:∀t∈ts,Sh n m t)(hm:ts.length*(m+2)+3<=m'):Sh (n+1) m' (.lst ts):=by
 obtain⟨ds,e,l,f⟩:=C2 (f:=λM=>F0 M n) h;exact⟨.list ds,λM=>by show (QL (F0 M n) ts).map _=_;rw[e M];rfl,qAO f (by rw[l];exact hm)⟩
theorem Sh.tup{n m m':Nat}{ts:List T}(h:∀t∈ts,Sh n m t)(hm:ts.length*(m+2)+3<=m'):Sh (n+1) m' (.tup ts):=by
 obtain⟨ds,e,l,f⟩:=C2 (f:=λM=>F0 M n) h;exact⟨.tuple ds,λM=>by show (QL (F0 M n) ts).map _=_;rw[e M];rfl,qBO f (by rw[l];exact hm)⟩
theorem Sh.mono{n m m':Nat}{t:T}(h:Sh n m t)(l:m<=m'):Sh n m' t:=by obtain⟨d,e,f⟩:=h;exact⟨d,e,f.mono l⟩
theorem qDL{x:V}{d:PyData}(e:n6 x=some d){m:Nat}(f:Fit d m)(n:Nat):Sh n m (.v x):=⟨d,λM=>by cases n<;>exact e,f⟩
theorem qEk{x:Nat}(h:x<=1000):Bd (x:Int):=Nat.lt_of_le_of_lt (by simpa using h) (by decide)
theorem qEn{i:Int}(h:Bd i)(n:Nat):Sh n 200 (.v (.int i)):=qDL rfl (qAr h) n
theorem qDw{x:Nat}(h:x<=1000)(n:Nat):Sh n 200 (N x):=qEn (qEk h) n
theorem q8(n:Nat):Sh n 200 (.v .non):=qDL rfl ⟨rfl,by decide⟩ n
theorem qGb(b:Bool)(n:Nat):Sh n 200 (.v (.bl b)):=qDL rfl ⟨rfl,by cases b<;>decide⟩ n
theorem qFA{y:Str}(h:y.length<=100)(hy:∀c∈y.cps.toList,c<16 ^ 8)(n:Nat):Sh n 1100 (.v (.str y)):=qDL (d:=.str y) rfl ⟨rfl,by
 show (reprText y).length<=_;have:=StrLaws.reprText_len y hy;omega⟩ n
theorem qFH{p:T->Prop}{a:T}(h1:p a):∀t∈[a],p t:=λt ht=>by rw[wU.mp ht];exact h1
theorem qGg{p:T->Prop}{a b:T}(h1:p a)(h2:p b):∀t∈[a,b],p t:=λt ht=>by
 simp only[wI,wT,or_false]at ht;rcases ht with rfl|rfl;exact h1;exact h2
theorem qB9{p:T->Prop}{a b c:T}(h1:p a)(h2:p b)(h3:p c):∀t∈[a,b,c],p t:=λt ht=>by
 simp only[wI,wT,or_false]at ht;rcases ht with rfl|rfl|rfl;exact h1;exact h2;exact h3
theorem qDB{M:Mem}{t:T}{n:Nat}(h:Sh 5 n t)(hn:n<=16000000):∃x:Str,∀M:Mem,zb M .repr [t]=some (.v (.str x),true):=by
 obtain⟨d,e,f⟩:=h;refine⟨d.shown,λM=>?_⟩;show ((Z8 M t).bind L3).map _=_;rw[show Z8 M t=some d from e M,Option.bind_some];unfold L3;rw[if_pos ⟨f.1,wM f.2 (by rw[sizeLine_eq];omega)⟩];rfl
end _M
namespace _M
open PySem PySem.Spec _P
open _L (V)
def OkV:V->Prop
 | .int i=>Bd i
 | .bl _=>True
 | .non=>True
 | .str x=>x="0"\/x="1"
 |_=>False
theorem Zb{v:V}(h:OkV v):flat v=true:=by cases v<;>first|rfl|exact h.elim
noncomputable abbrev FL(L:List V):T:=.lst (L.map T.v)
noncomputable abbrev FT(L:List V):T:=.tup (L.map T.v)
inductive OkE:T->Prop
 |v{x:V}:OkV x->OkE (.v x)
 |l:OkE (.lst [N 0])
noncomputable def wh:T->Bool | .v (.int _)=>true|_=>false
noncomputable def bel(e:Int):T->Bool | .v (.int i)=>decide (0<=i)&&decide (i<e)|_=>false
noncomputable def sz:T->Bool | .v (.int i)=>decide (1<=i)&&decide (i<=5)|_=>false
inductive OkZ:T->Prop
 |v{x:V}:OkV x->OkZ (.v x)
 |s:OkZ (.v (.str "2"))
 |t:OkZ (.tup [N 1])
def Kd(t:T):Prop:=(∃i,t=I i)\/∃ty,ty≠"int"/\(∀M,qh M t=some ty)/\wh t=false/\(∀e,bel e t=false)/\sz t=false
theorem qBl{v:V}(h:flat v=true):Kd (.v v):=by
 cases v with
 |int i=>exact .inl ⟨i,rfl⟩
 |bl b=>exact .inr ⟨"bool",by decide,λ_=>rfl,rfl,λ_=>rfl,rfl⟩
 |non=>exact .inr ⟨"NoneType",by decide,λ_=>rfl,rfl,λ_=>rfl,rfl⟩
 |str b=>exact .inr ⟨"str",by decide,λ_=>rfl,rfl,λ_=>rfl,rfl⟩
 |_=>exact absurd h (by simp[flat])
theorem OkE.kd{t:T}(h:OkE t):Kd t:=by
 cases h with
 |v h=>exact qBl (Zb h)
 |l=>exact .inr ⟨"list",by decide,λ_=>rfl,rfl,λ_=>rfl,rfl⟩
theorem OkZ.kd{t:T}(h:OkZ t):Kd t:=by
 cases h with
 |v h=>exact qBl (Zb h)
 |s=>exact qBl rfl
 |t=>exact .inr ⟨"tuple",by decide,λ_=>rfl,rfl,λ_=>rfl,rfl⟩
section
variable{k:Nat}
theorem w0(hk:1<=k){t:T}(h:Kd t)(M:Mem):Pk (glT gs) Tb.fns Cs k 0 [t] M=.ok (bT (wh t),M):=by
 rw[qT t0 ⟨rfl,by decide⟩ hk];rcases h with⟨i,rfl⟩|⟨ty,hn,e,q,_,_⟩
 ·simp[b0,qW,qA,wh,qh]
 ·rw[q];by_cases hb:ty="bool"
  ·subst hb;simp[b0,qW,qA,e]
  ·simp[b0,qW,qA,e,hn,hb]
theorem w11(hk:1<=k){t:T}(h:Kd t)(M:Mem):Pk (glT gs) Tb.fns Cs k 11 [t] M=.ok (bT (wh t),M):=by
 rw[qT t11 ⟨rfl,by decide⟩ hk];rcases h with⟨i,rfl⟩|⟨ty,hn,e,q,_,_⟩
 ·simp[b11,qW,qA,wh,qh]
 ·rw[q];by_cases hb:ty="bool"
  ·subst hb;simp[b11,qW,qA,e]
  ·simp[b11,qW,qA,e,hn,hb]
theorem n1(hk:2<=k){t:T}(h:Kd t)(e:Int)(M:Mem):Pk (glT gs) Tb.fns Cs k 1 [t,I e] M=.ok (bT (bel e t),M):=by
 rw[qT t1 ⟨rfl,by decide⟩ (by omega),b1];have w:=λM=>w0 (k:=k-1) (by omega) h M;rcases h with⟨i,rfl⟩|⟨ty,hn,_,q,q2,_⟩
 ·have w:∀M,Pk (glT gs) Tb.fns Cs (k-1) 0 [I i] M=.ok (bT true,M):=w;have le:∀{M:Mem},qu M .le (N 0) (I i)=some (decide (0<=i)):=λ{M}=>rfl;cases h0:decide (0<=i) with
  |true=>simp[w,le,h0,qA,bel]
  |false=>simp[w,le,h0,qA,bel]
 ·rw[q]at w;simp[w,qA,q2]
theorem z5(hk:2<=k){t:T}(h:Kd t)(M:Mem):Pk (glT gs) Tb.fns Cs k 5 [t] M=.ok (bT (sz t),M):=by
 rw[qT t5 ⟨rfl,by decide⟩ (by omega),b5];have w:=λM=>w0 (k:=k-1) (by omega) h M;rcases h with⟨i,rfl⟩|⟨ty,hn,_,q,_,q2⟩
 ·have w:∀M,Pk (glT gs) Tb.fns Cs (k-1) 0 [I i] M=.ok (bT true,M):=w;have le:∀{M:Mem},qu M .le (N 1) (I i)=some (decide (1<=i)):=λ{M}=>rfl;have le5:∀{M:Mem},qu M .le (I i) (N 5)=some (decide (i<=5)):=λ{M}=>rfl;cases h0:decide (1<=i) with
  |true=>simp[w,le,le5,h0,qA,sz]
  |false=>simp[w,le,h0,qA,sz]
 ·rw[q]at w;simp[w,qA,q2]
theorem S9{α:Type}{gl:List T}{P:Nat->List T->Mem->PR (TB×Mem)}{e:TS->Mem->PR (TB×Mem)}{M:Mem}{σ:TS}(g h:α->T)(fr:α->Bool):∀(its:List α) (ys:List T) (b:Bool) (o:Option T),ys.length+its.length<=lim ->
  (∀x∈its,e (some (g x)::σ) M=.ok ((h x,fr x),M)) ->
  ql [] (.name 0) (pec gl P .nil) e (its.map g) ys b (o::σ) M=.ok ((.lst (ys++its.map h),b&&its.all fr),M)
 | [],ys,b,o,_,_=>by simp[ql]
 |x::r,ys,b,o,hl,he=>by
  rw[List.map_cons,ql];rw[show zV (.name 0) (g x) (o::σ)=some (some (g x)::σ) from rfl];show PR.bind (pec gl P .nil _ M) _=_;rw[show pec gl P .nil (some (g x)::σ) M=.ok (true,M) by simp,tD];dsimp only;rw[if_pos rfl,he x (by simp),tD];dsimp only;rw[if_pos ⟨by simp at hl;omega,rfl⟩,S9 g h fr r (ys++[h x]) (b&&fr x) (some (g x)) (by simp at hl ⊢;omega) (λy hy=>he y (by simp[hy]))];simp[Bool.and_assoc]
theorem k8{α:Type}{gl:List T}{P:Nat->List T->Mem->PR (TB×Mem)}{c:TS->Mem->PR (Bool×Mem)}{e:TS->Mem->PR (TB×Mem)}{M:Mem}{σ:TS}(g h:α->T)(p:α->Bool):∀(its:List α) (ys:List T) (o:Option T),ys.length+its.length<=lim ->
  (∀x∈its,c (some (g x)::σ) M=.ok (p x,M))->(∀x∈its,e (some (g x)::σ) M=.ok ((h x,true),M)) ->
  ql [] (.name 0) c e (its.map g) ys true (o::σ) M=.ok ((.lst (ys++(its.filter p).map h),true),M)
 | [],ys,o,_,_,_=>by simp[ql]
 |x::r,ys,o,hl,hc,he=>by
  rw[List.map_cons,ql];rw[show zV (.name 0) (g x) (o::σ)=some (some (g x)::σ) from rfl];show PR.bind (c _ M) _=_;rw[hc x (by simp),tD];dsimp only;have ih:=λys h'=>k8 (gl:=gl) (P:=P) g h p r ys (some (g x)) h' (λy hy=>hc y (by simp[hy])) (λy hy=>he y (by simp[hy]));cases hp:p x with
  |true=>
   rw[if_pos rfl,he x (by simp),tD];dsimp only;rw[if_pos ⟨by simp at hl;omega,rfl⟩,Bool.and_self,ih (ys++[h x]) (by simp at hl ⊢;omega),vJ hp];simp
  |false=>
   rw[if_neg (by decide),if_pos (show qk [] M=true from rfl),ih ys (by simp at hl ⊢;omega),vW (by simp[hp])]
theorem b2v(hk:3<=k){L:List V}(h:∀v∈L,OkV v)(hl:L.length<=1000)(e:Int)(M:Mem):Pk (glT gs) Tb.fns Cs k 2 [FL L,I e] M=.ok (bT (L.all λv=>bel e (.v v)),M):=by
 rw[qT t2 ⟨rfl,by decide⟩ (by omega),b2];have c:=S9 (gl:=glT gs) (P:=Pk (glT gs) Tb.fns Cs (k-1)) (e:=pe (glT gs) (Pk (glT gs) Tb.fns Cs (k-1)) (.call 1 (.cons (.var 0) (.cons (.var 1) .nil)))) (M:=M) (σ:=[some (I e)]) T.v (λv=>.v (.bl (bel e (.v v)))) (λ_=>true) L [] true none (by simp[lim];omega) (λv hv=>by
  have w:=λM=>n1 (k:=k-1) (by omega) (qBl (Zb (h v hv))) e M;simp[w,bT])
 rw[List.nil_append]at c;have al:∀{M:Mem},zb M .all [.lst (L.map λv=>T.v (.bl (bel e (.v v))))]=some (bT (L.all λv=>bel e (.v v))):=λ{M}=>qAg (λv=>bel e (.v v)) L;simp[qW,c,al,qA]
theorem no2(hk:1<=k){t:T}{ty:String}(e:∀M:Mem,qh M t=some ty)(hn:¬ ty="list")(x:T)(M:Mem):Pk (glT gs) Tb.fns Cs k 2 [t,x] M=.ok (bT false,M):=by
 rw[qT t2 ⟨rfl,by decide⟩ hk,b2];simp[qW,e,hn,qA]
noncomputable def ris(e:Int):Int->List T->Bool
 |_,[]=>true
 |l,t::r=>match t with
  | .v (.int i)=>((decide (0<=i)&&decide (i<e))&&decide (l<=i))&&ris e (i+1) r
  |_=>false
theorem l4{e l:Int}{t:T}{r:List T}(h:wh t=false):ris e l (t::r)=false:=by
 unfold ris;split
 ·cases h
 ·rfl
theorem qCK(hk:2<=k){t:T}{e:Int}{M:Mem}:∀(L:List T) (l:Int) (o:Option T),(∀x∈L,Kd x)->∃l' o',jC [] (.name 3) (pxs (glT gs) (Pk (glT gs) Tb.fns Cs k) [] qBU) L [some t,some (I e),some (I l),o] M=
   if ris e l L=true then .ok (.nx [some t,some (I e),some (I l'),o'],M) else .ok (.rt (bT false),M)
 | [],l,o,h=>⟨l,o,by simp[ris]⟩
 |x::L,l,o,h=>by
  have w:=λM=>n1 (k:=k) hk (h x (by simp)) e M;have ih:=λl o=>qCK hk (t:=t) (e:=e) (M:=M) L l o (λx hx=>h x (by simp[hx]));rcases h x (by simp) with⟨i,rfl⟩|⟨ty,hn,_,q,q2,_⟩
  ·obtain⟨l',o',q⟩:=ih (i+1) (some (I i));refine⟨l',o',?_⟩;rw[qe];have lt:∀{M:Mem},qu M .lt (I i) (I l)=some (decide (i<l)):=λ{M}=>rfl;have ad:∀{M:Mem},qc M .add (I i) (N 1)=some (I (i+1),true):=λ{M}=>rfl;have rr:ris e l (I i::L)=((bel e (I i)&&decide (l<=i))&&ris e (i+1) L):=rfl;rw[rr];cases hb:bel e (I i) with
   |false=>rw[hb]at w;simp[qBU,w]
   |true=>
    rw[hb]at w;by_cases hl:l<=i
    ·have nl:decide (i<l)=false:=by simp;omega
     simp[qBU,w,lt,nl,ad,hl];exact q
    ·have nl:decide (i<l)=true:=by simp;omega
     simp[qBU,w,lt,nl,hl]
  ·rw[q2]at w;exact⟨l,o,by rw[qe,l4 q];simp[qBU,w]⟩
theorem r3(hk:3<=k){L:List T}(h:∀x∈L,Kd x)(e:Int)(M:Mem):Pk (glT gs) Tb.fns Cs k 3 [.lst L,I e] M=.ok (bT (ris e 0 L),M):=by
 rw[qT t3 ⟨rfl,by decide⟩ (by omega),b3,show Cs.getD 3 []=[] from rfl];obtain⟨l',o',q⟩:=qCK (k:=k-1) (by omega) (t:=.lst L) (e:=e) (M:=M) L 0 none h;have n0:N 0=I 0:=rfl;cases hr:ris e 0 L with
 |true=>
  rw[hr,if_pos rfl]at q;simp[qW,n0,q,qA]
 |false=>
  rw[hr,if_neg (by decide)]at q;simp[qW,n0,q,qA]
theorem no3(hk:1<=k){t:T}{ty:String}(e:∀M:Mem,qh M t=some ty)(hn:¬ ty="list")(x:T)(M:Mem):Pk (glT gs) Tb.fns Cs k 3 [t,x] M=.ok (bT false,M):=by
 rw[qT t3 ⟨rfl,by decide⟩ hk,b3];simp[qW,e,hn,qA]
theorem p3:∀s,s<=5->[N 1,N 2,N 4,N 8,N 16,N 32][s]?=some (N (2 ^ s))
 | 0,_|1,_|2,_|3,_|4,_|5,_=>rfl
 |_+6,h=>by omega
theorem qAE(hk:1<=k){s:Nat}(hs:s<=5)(M:Mem):Pk (glT gs) Tb.fns Cs k 4 [N s] M=.ok ((N (2 ^ s),true),M):=by
 rw[qT t4 ⟨rfl,by decide⟩ hk,b4];have ix:∀{M:Mem},QH M (.tup [N 1,N 2,N 4,N 8,N 16,N 32]) (N s)=some (N (2 ^ s),true):=λ{M}=>by rw[qV,p3 s hs];rfl
 simp[gl0,ix,qA,-qV]
theorem f6(hk:1<=k)(a b:Nat)(M:Mem):Pk (glT gs) Tb.fns Cs k 6 [N a,N b] M=.ok (bT (decide (a&&& b=b)),M):=by
 rw[qT t6 ⟨rfl,by decide⟩ hk,b6];simp[qA,A8]
end
end _M
namespace _M
open PySem PySem.Spec _P
open _L (V)
noncomputable def tn:T->Nat | .v (.int i)=>i.toNat|_=>0
noncomputable def vn:V->Nat | .int i=>i.toNat|_=>0
noncomputable def clo(n:Nat)(K:List Nat)(i:Nat):Bool:=(List.range n).all λp=>!decide (p&&& i=i)||decide (p∈K)
noncomputable def zer(A:List Nat)(i:Nat):Bool:=decide (A.getD i 1=0)
noncomputable def Z3(n:Nat)(A:List Nat)(K:List T):Bool:=ris n 0 K&&(K.map tn).all λx=>zer A x&&clo n (K.map tn) x
noncomputable def pl(s:Nat)(A:List V)(K:List T):Bool:=(A.all λv=>bel 7 (.v v))&&(decide (A.length=2 ^ s)&&Z3 (2 ^ s) (A.map vn) K)
theorem A6{e:Int}:∀{K:List T}{l:Int},ris e l K=true->K=(K.map tn).map N/\∀x∈K.map tn,(x:Int)<e
 | [],l,h=>⟨rfl,λx hx=>by simp at hx⟩
 |t::r,l,h=>by
  unfold ris at h;split at h
  ·rename_i i;simp only[wB,vj]at h;obtain⟨⟨⟨h1,h2⟩,h3⟩,h4⟩:=h;obtain⟨a,b⟩:=A6 h4;refine⟨?_,λx hx=>?_⟩
   ·rw[List.map_cons,List.map_cons,<-a];have:N (tn (.v (.int i)))=.v (.int i):=by unfold tn N;rw[Int.toNat_of_nonneg h1]
    rw[this]
   ·rcases wI.mp hx with rfl|hx
    ·show ((i.toNat:Nat):Int)<e;omega
    ·exact b x hx
  ·cases h
theorem Zv{e:Int}:∀{A:List V},(A.all λv=>bel e (.v v))=true->FL A=NL (A.map vn)
 | [],h=>rfl
 |v::r,h=>by
  rw[List.all_cons,wB]at h;have ih:=Zv h.2;have:T.v v=N (vn v):=by
   cases v with
   |int i=>
    have h1:(decide (0<=i)&&decide (i<e))=true:=h.1;simp only[wB,vj]at h1;unfold vn N;rw[Int.toNat_of_nonneg h1.1]
   |_=>exact absurd h.1 (by simp[bel])
  show T.lst (T.v v::r.map T.v)=T.lst (N (vn v)::(r.map vn).map N);have ih':r.map T.v=(r.map vn).map N:=T.lst.inj ih;rw[this,ih']
section
variable{k:Nat}
theorem i0{M:Mem}(a b c:T)(l:List T):QH M (.tup (a::b::c::l)) (N 0)=some (a,a.lf):=by rw[qV];rfl
theorem i1{M:Mem}(a b c:T)(l:List T):QH M (.tup (a::b::c::l)) (N 1)=some (b,b.lf):=by rw[qV];rfl
theorem i2{M:Mem}(a b c:T)(l:List T):QH M (.tup (a::b::c::l)) (N 2)=some (c,c.lf):=by rw[qV];rfl
theorem l3{M:Mem}(a b c:T):zb M .len [.tup [a,b,c]]=some (N 3,true):=by rw[qg];rfl
theorem qFO{M:Mem}{A:List Nat}{i:Nat}(h:i<A.length):QH M (NL A) (N i)=some (N (A.getD i 1),true):=by
 show QH M (.lst (A.map N)) (N i)=_;rw[zi,we,wE h];simp[wg,h,N]
theorem f8(hk:3<=k){A K:List Nat}{i:Nat}(hi:i<A.length)(hA:A.length<=100)(M:Mem):Pk (glT gs) Tb.fns Cs k 8 [NL A,NL K,N i] M=.ok (bT (zer A i&&clo A.length K i),M):=by
 rw[qT t8 ⟨rfl,by decide⟩ (by omega),b8,show Cs.getD 8 []=[] from rfl];have rg:=E8 (n:=A.length) (by omega);have ln:∀{M:Mem},zb M .len [NL A]=some (N A.length,true):=λ{M}=>by show zb M .len [.lst (A.map N)]=_;rw[QF,wG]
 have c:=Jt (c:=pec (glT gs) (Pk (glT gs) Tb.fns Cs (k-1)) (.cons (.call 6 (.cons (.var 0) (.cons (.var 1) .nil))) .nil)) (e:=pe (glT gs) (Pk (glT gs) Tb.fns Cs (k-1)) (.var 0)) (M:=M) (σ:=[some (N i)]) (o:=none) (its:=List.range A.length) (λp=>decide (p&&& i=i)) (λx=>x) (by simp[lim];omega) (λx _=>by simp[f6 (k:=k-1) (by omega)]) (λx _ _=>by simp);rw[List.map_id']at c;have cl:clo A.length K i=((List.range A.length).filter λp=>decide (p&&& i=i)).all λp=>decide (p∈K):=by
  unfold clo;rw[List.all_filter]
 rw[cl];have lS:((List.range A.length).filter λp=>decide (p&&& i=i)).length<=A.length:=wM (List.length_filter_le _ _) (by simp);generalize (List.range A.length).filter (λp=>decide (p&&& i=i))=S at *;have c2:=JD (M:=M) (σ:=[some (NL K)]) (c:=pec (glT gs) (Pk (glT gs) Tb.fns Cs (k-1)) .nil) (e:=pe (glT gs) (Pk (glT gs) Tb.fns Cs (k-1)) (.cmp .inn (.var 0) (.var 1))) (λ_=>true) (λp=>T.v (.bl (decide (p∈K)))) (λ_=>true) S [] true none (by simp[lim];omega) (λx _=>by simp) (λx _ _=>by
  have:=qFC (M:=M) x K;simp[this,bT])
 rw[jq,List.nil_append,show (S.all λ_=>true)=true from wb.mpr λ_ _=>rfl]at c2;have al:∀{M:Mem},zb M .all [.lst (S.map λp=>T.v (.bl (decide (p∈K))))]=some (bT (S.all λp=>decide (p∈K))):=λ{M}=>qAg (λp=>decide (p∈K)) S;have ix:=λ{M}=>qFO (M:=M) hi;have sN:Zw M (NL S)=some (S.map N,[]):=rfl;have eq:∀{M:Mem},qu M .eq (N (A.getD i 1)) (N 0)=some (zer A i):=λ{M}=>by rw[qBq];rfl
 generalize NL S=tS at *;generalize S.map N=SN at *;generalize (S.map λp=>T.v (.bl (decide (p∈K))))=SB at *;generalize N (A.getD i 1)=a0 at *;have lfA:(NL A).lf=false:=jQ A;have lfK:(NL K).lf=false:=jQ K;generalize NL A=tA at *;generalize NL K=tK at *;cases hz:zer A i with
 |true=>rw[hz]at eq;simp[ln,rg,c,-zB,-qy,ix,eq,sN,c2,al,qA]
 |false=>rw[hz]at eq;simp[ln,rg,c,-zB,-qy,ix,eq,qA]
theorem V5(hk:1<=k){t:T}{ty:String}(e:∀M:Mem,qh M t=some ty)(hn:¬ ty="tuple")(M:Mem):Pk (glT gs) Tb.fns Cs k 7 [t] M=.ok (bT false,M):=by
 rw[qT t7 ⟨rfl,by decide⟩ hk,b7,show Cs.getD 7 []=[] from rfl];simp[qW,e,hn,qA]
theorem D5(hk:1<=k){t:T}{ty:String}(e:∀M:Mem,qh M t=some ty)(hn:¬ ty="tuple")(M:Mem):Pk (glT gs) Tb.fns Cs k 13 [t] M=.ok (bT false,M):=by
 rw[qT t13 ⟨rfl,by decide⟩ hk,b13,show Cs.getD 13 []=[] from rfl];simp[qW,e,hn,qA]
theorem qAq(hk:1<=k){ts:List T}(hl:ts.length≠3)(M:Mem):Pk (glT gs) Tb.fns Cs k 7 [.tup ts] M=.ok (bT false,M):=by
 rw[qT t7 ⟨rfl,by decide⟩ hk,b7,show Cs.getD 7 []=[] from rfl];simp[qW,hl,qA]
theorem i6(hk:1<=k){ts:List T}(hl:ts.length≠3)(M:Mem):Pk (glT gs) Tb.fns Cs k 13 [.tup ts] M=.ok (bT false,M):=by
 rw[qT t13 ⟨rfl,by decide⟩ hk,b13,show Cs.getD 13 []=[] from rfl];simp[qW,hl,qA]
theorem g7(hk:3<=k){t:T}(hf:Kd t)(hs:sz t=false)(x y:T)(M:Mem):Pk (glT gs) Tb.fns Cs k 7 [.tup [t,x,y]] M=.ok (bT false,M):=by
 rw[qT t7 ⟨rfl,by decide⟩ (by omega),b7,show Cs.getD 7 []=[] from rfl];have w:=λM=>z5 (k:=k-1) (by omega) hf M;rw[hs]at w;simp[qW,-qV,-qg,i0,l3,w,qA]
theorem V4(hk:3<=k){t:T}(hf:Kd t)(hs:sz t=false)(x y:T)(M:Mem):Pk (glT gs) Tb.fns Cs k 13 [.tup [t,x,y]] M=.ok (bT false,M):=by
 rw[qT t13 ⟨rfl,by decide⟩ (by omega),b13,show Cs.getD 13 []=[] from rfl];have w:=λM=>w11 (k:=k-1) (by omega) hf M;rcases hf with⟨i,rfl⟩|⟨ty,hn,_,q,_,q2⟩
 ·have le:∀{M:Mem},qu M .le (N 1) (I i)=some (decide (1<=i)):=λ{M}=>rfl;have le5:∀{M:Mem},qu M .le (I i) (N 5)=some (decide (i<=5)):=λ{M}=>rfl;have w:∀M,Pk (glT gs) Tb.fns Cs (k-1) 11 [I i] M=.ok (bT true,M):=w;have hs:(decide (1<=i)&&decide (i<=5))=false:=hs;cases h1:decide (1<=i) with
  |false=>simp[qW,-qV,-qg,i0,l3,w,le,h1,qA]
  |true=>
   rw[h1,Bool.true_and]at hs;simp[qW,-qV,-qg,i0,l3,w,le,le5,h1,hs,qA]
 ·rw[q]at w;simp[qW,-qV,-qg,i0,l3,w,qA]
theorem qAk{s:Nat}(hs:1<=s/\s<=5):sz (N s)=true:=by simp[sz,N];omega
theorem qGO(hk:4<=k){s:Nat}(hs:1<=s/\s<=5){x:T}{ty:String}(e:∀M:Mem,qh M x=some ty)(hn:¬ ty="list")(y:T)(M:Mem):Pk (glT gs) Tb.fns Cs k 7 [.tup [N s,x,y]] M=.ok (bT false,M):=by
 rw[qT t7 ⟨rfl,by decide⟩ (by omega),b7,show Cs.getD 7 []=[] from rfl];have w:∀M,Pk (glT gs) Tb.fns Cs (k-1) 5 [N s] M=.ok (bT true,M):=λM=>by rw[<-qAk hs];exact z5 (k:=k-1) (by omega) (.inl ⟨_,rfl⟩) M
 have r:=λa M=>no2 (k:=k-1) (by omega) e hn a M;have l:=λM=>qAE (k:=k-1) (by omega) hs.2 M;simp[qW,-qV,-qg,i0,i1,l3,w,l,r,qA]
theorem qDl(hk:4<=k){s:Nat}(hs:1<=s/\s<=5){x:T}{ty:String}(e:∀M:Mem,qh M x=some ty)(hn:¬ ty="list")(y:T)(M:Mem):Pk (glT gs) Tb.fns Cs k 13 [.tup [N s,x,y]] M=.ok (bT false,M):=by
 rw[qT t13 ⟨rfl,by decide⟩ (by omega),b13,show Cs.getD 13 []=[] from rfl];have w:∀M,Pk (glT gs) Tb.fns Cs (k-1) 11 [N s] M=.ok (bT true,M):=λM=>w11 (k:=k-1) (by omega) (.inl ⟨_,rfl⟩) M;have sh:∀{M:Mem},qc M .shl (N 1) (N s)=some (N (1*2 ^ s),true):=λ{M}=>D8 (by omega);simp[qW,-qV,-qg,i0,i1,l3,w,e,hn,sh,hs.1,hs.2,qA]
theorem N2s(s:Nat):N (2 ^ s)=I ((2 ^ s:Nat):Int):=rfl
theorem two7(hk:4<=k){s:Nat}(hs:1<=s/\s<=5){A:List V}(h1:∀v∈A,OkV v)(hl:A.length<=100){y:T}{ty:String}(e:∀M:Mem,qh M y=some ty)(hn:¬ ty="list")(M:Mem):Pk (glT gs) Tb.fns Cs k 7 [.tup [N s,FL A,y]] M=.ok (bT false,M):=by
 rw[qT t7 ⟨rfl,by decide⟩ (by omega),b7,show Cs.getD 7 []=[] from rfl];have w:∀M,Pk (glT gs) Tb.fns Cs (k-1) 5 [N s] M=.ok (bT true,M):=λM=>by rw[<-qAk hs];exact z5 (k:=k-1) (by omega) (.inl ⟨_,rfl⟩) M
 have l:=λM=>qAE (k:=k-1) (by omega) hs.2 M;have r:=λM=>b2v (k:=k-1) (by omega) h1 (by omega) 7 M;have n3:=λa M=>no3 (k:=k-1) (by omega) e hn a M;have ad:∀{M:Mem},qc M .add (N 6) (N 1)=some (I 7,true):=λ{M}=>rfl;have ln:∀{M:Mem},zb M .len [FL A]=some (N A.length,true):=λ{M}=>by rw[QF,wG]
 have ne:∀{M:Mem},qu M .ne (N A.length) (N (2 ^ s))=some (!decide (A.length=2 ^ s)):=λ{M}=>by rw[O2]
 have lfA:(FL A).lf=false:=rfl;generalize N (2 ^ s)=p2 at *;generalize N A.length=la at *;generalize FL A=tA at *;cases hb:(A.all λv=>bel 7 (.v v)) with
 |false=>rw[hb]at r;simp[qW,-qV,-qg,-jY,i0,i1,l3,w,l,ad,r,qA]
 |true=>
  rw[hb]at r;cases hd:decide (A.length=2 ^ s) with
  |false=>rw[hd]at ne;simp[qW,-qV,-qg,-jY,i0,i1,l3,w,l,ad,r,ln,ne,qA]
  |true=>rw[hd]at ne;simp[qW,-qV,-qg,-jY,i0,i1,i2,l3,w,l,ad,r,ln,ne,n3,qA]
theorem two13(hk:4<=k){s:Nat}(hs:1<=s/\s<=5)(A:List V){y:T}{ty:String}(e:∀M:Mem,qh M y=some ty)(hn:¬ ty="list")(M:Mem):Pk (glT gs) Tb.fns Cs k 13 [.tup [N s,FL A,y]] M=.ok (bT false,M):=by
 rw[qT t13 ⟨rfl,by decide⟩ (by omega),b13,show Cs.getD 13 []=[] from rfl];have w:∀M,Pk (glT gs) Tb.fns Cs (k-1) 11 [N s] M=.ok (bT true,M):=λM=>w11 (k:=k-1) (by omega) (.inl ⟨_,rfl⟩) M;have sh:∀{M:Mem},qc M .shl (N 1) (N s)=some (N (2 ^ s),true):=λ{M}=>by rw[D8 (by omega),Nat.one_mul]
 have ln:∀{M:Mem},zb M .len [FL A]=some (N A.length,true):=λ{M}=>by rw[QF,wG]
 have ne:∀{M:Mem},qu M .ne (N A.length) (N (2 ^ s))=some (!decide (A.length=2 ^ s)):=λ{M}=>by rw[O2]
 have ty1:∀{M:Mem},qh M (FL A)=some "list":=rfl;generalize N (2 ^ s)=p2 at *;generalize N A.length=la at *;generalize FL A=tA at *;cases hd:decide (A.length=2 ^ s) with
 |false=>rw[hd]at ne;simp[qW,-qV,-qg,i0,i1,i2,l3,w,ty1,e,hn,sh,hs.1,hs.2,ln,ne,qA]
 |true=>rw[hd]at ne;simp[qW,-qV,-qg,i0,i1,i2,l3,w,ty1,e,hn,sh,hs.1,hs.2,ln,ne,qA]
theorem qEb(hk:5<=k){s:Nat}(hs:1<=s/\s<=5){A:List V}{K:List T}(h1:∀v∈A,OkV v)(h2:∀t∈K,Kd t)(hl:A.length<=100)(hK:K.length<=100)(M:Mem):Pk (glT gs) Tb.fns Cs k 7 [.tup [N s,FL A,.lst K]] M=.ok (bT (pl s A K),M):=by
 rw[qT t7 ⟨rfl,by decide⟩ (by omega),b7,show Cs.getD 7 []=[] from rfl];have w:∀M,Pk (glT gs) Tb.fns Cs (k-1) 5 [N s] M=.ok (bT true,M):=λM=>by rw[<-qAk hs];exact z5 (k:=k-1) (by omega) (.inl ⟨_,rfl⟩) M
 have l:=λM=>qAE (k:=k-1) (by omega) hs.2 M;have r:=λM=>b2v (k:=k-1) (by omega) h1 (by omega) 7 M;have r3:=λM=>r3 (k:=k-1) (by omega) h2 ((2 ^ s:Nat):Int) M;rw[<-N2s]at r3;have ad:∀{M:Mem},qc M .add (N 6) (N 1)=some (I 7,true):=λ{M}=>rfl;have ln:∀{M:Mem},zb M .len [FL A]=some (N A.length,true):=λ{M}=>by rw[QF,wG]
 have ne:∀{M:Mem},qu M .ne (N A.length) (N (2 ^ s))=some (!decide (A.length=2 ^ s)):=λ{M}=>by rw[O2]
 unfold pl Z3;cases hb:(A.all λv=>bel 7 (.v v)) with
 |false=>
  rw[hb]at r;generalize N (2 ^ s)=p2 at *;generalize FL A=tA at *;simp[qW,-qV,-qg,-jY,i0,i1,l3,w,l,ad,r,qA]
 |true=>
  rw[hb]at r;by_cases hd:A.length=2 ^ s
  ·rw[vi hd]at ne ⊢;cases hr:ris ((2 ^ s:Nat):Int) 0 K with
   |false=>
    rw[hr]at r3;generalize N (2 ^ s)=p2 at *;generalize N A.length=la at *;generalize FL A=tA at *;simp[qW,-qV,-qg,-jY,i0,i1,i2,l3,w,l,ad,r,ln,ne,r3,qA]
   |true=>
    rw[hr]at r3;obtain⟨eK,hx⟩:=A6 hr;have eA:=Zv hb;have lv:(A.map vn).length=2 ^ s:=by rw[wG,hd]
    generalize hKn:K.map tn=Kn at *;have lK:Kn.length<=100:=by rw[<-hKn,wG];exact hK
    subst eK;have c:=JD (M:=M) (σ:=[some (.tup [N s,FL A,NL Kn])]) (c:=pec (glT gs) (Pk (glT gs) Tb.fns Cs (k-1)) .nil) (e:=pe (glT gs) (Pk (glT gs) Tb.fns Cs (k-1)) (.call 8 (.cons (.idx (.var 1) (nE 1)) (.cons (.idx (.var 1) (nE 2)) (.cons (.var 0) .nil))))) (λ_=>true) (λx=>T.v (.bl (zer (A.map vn) x&&clo (2 ^ s) Kn x))) (λ_=>true) Kn [] true none (by simp[lim];omega) (λx _=>by simp) (λx hm _=>by
     have hx':x<(A.map vn).length:=by rw[lv];have:=hx x hm;exact_mod_cast this
     have f:=λM=>f8 (k:=k-1) (by omega) (A:=A.map vn) (K:=Kn) hx' (by rw[wG];exact hl) M;rw[lv,<-eA]at f;generalize FL A=tA at *;generalize NL Kn=tK at *;simp[-qV,i1,i2,f,bT])
    rw[jq,List.nil_append,show (Kn.all λ_=>true)=true from wb.mpr λ_ _=>rfl]at c;have al:∀{M:Mem},zb M .all [.lst (Kn.map λx=>T.v (.bl (zer (A.map vn) x&&clo (2 ^ s) Kn x)))]=some (bT (Kn.all λx=>zer (A.map vn) x&&clo (2 ^ s) Kn x)):=λ{M}=>qAg _ Kn;have sN:Zw M (NL Kn)=some (Kn.map N,[]):=rfl;have lfK:(NL Kn).lf=false:=jQ Kn;show _=PR.ok (bT (true&&(true&&(true&&_))),M);generalize (Kn.all λx=>zer (A.map vn) x&&clo (2 ^ s) Kn x)=bb at *;generalize (Kn.map λx=>T.v (.bl (zer (A.map vn) x&&clo (2 ^ s) Kn x)))=SB at *;have e0:T.lst (Kn.map N)=NL Kn:=rfl;rw[e0]at r3 ⊢;generalize Kn.map N=SN at *;generalize NL Kn=tK at *;generalize N (2 ^ s)=p2 at *;generalize N A.length=la at *;generalize FL A=tA at *;simp[qW,-qV,-qg,-jY,-qy,i0,i1,i2,l3,w,l,ad,r,ln,ne,r3,sN,c,al,qA]
  ·rw[vh hd]at ne ⊢;generalize N (2 ^ s)=p2 at *;generalize N A.length=la at *;generalize FL A=tA at *;simp[qW,-qV,-qg,-jY,i0,i1,l3,w,l,ad,r,ln,ne,qA]
end
end _M
namespace _M
open PySem PySem.Spec _P
open _L (V)
noncomputable def rz(A:List Nat)(e:Int):Int->List T->Bool
 |_,[]=>true
 |l,t::r=>match t with
  | .v (.int i)=>((decide (l<=i)&&decide (i<e))&&zer A i.toNat)&&rz A e (i+1) r
  |_=>false
theorem qC8{A:List Nat}{e l:Int}{t:T}{r:List T}(h:wh t=false):rz A e l (t::r)=false:=by
 unfold rz;split
 ·cases h
 ·rfl
theorem qCR{A:List Nat}{e:Int}:∀{K:List T}{l:Int},0<=l->(∀t∈K,Kd t)->rz A e l K=(ris e l K&&(K.map tn).all (zer A))
 | [],l,h,_=>rfl
 |t::r,l,h,hk=>by
  rcases hk t (by simp) with⟨i,rfl⟩|⟨_,_,_,q,_⟩
  ·show (((decide (l<=i)&&decide (i<e))&&zer A i.toNat)&&rz A e (i+1) r)=((((decide (0<=i)&&decide (i<e))&&decide (l<=i))&&ris e (i+1) r)&&(zer A i.toNat&&(r.map tn).all (zer A)));by_cases hl:l<=i
   ·rw[qCR (K:=r) (l:=i+1) (by omega) (λt ht=>hk t (by simp[ht])),vi hl,vi (show (0:Int)<=i by omega)];cases decide (i<e)<;>cases zer A i.toNat<;>cases ris e (i+1) r<;>rfl
   ·rw[vh hl];simp
  ·rw[qC8 q,l4 q];rfl
section
variable{k:Nat}
theorem qCU(hk:2<=k){s:Nat}{A:List Nat}{ky:T}{M:Mem}:∀(L:List T) (l:Int) (o:Option T),0<=l->(∀t∈L,Kd t)->∃l' o',jC [] (.name 3) (pxs (glT gs) (Pk (glT gs) Tb.fns Cs k) [] Jk) L [some (.tup [N s,NL A,ky]),some (N A.length),some (I (l-1)),o] M=
   if rz A A.length l L=true then .ok (.nx [some (.tup [N s,NL A,ky]),some (N A.length),some (I l'),o'],M) else .ok (.rt (bT false),M)
 | [],l,o,h0,h=>⟨l-1,o,by simp[rz]⟩
 |x::L,l,o,h0,h=>by
  have w:=λM=>w11 (k:=k) (by omega) (h x (by simp)) M;have ih:=λl o h0=>qCU hk (s:=s) (A:=A) (ky:=ky) (M:=M) L l o h0 (λx hx=>h x (by simp[hx]));rcases h x (by simp) with⟨i,rfl⟩|⟨ty,hn,_,q,_,_⟩
  ·have w:∀M,Pk (glT gs) Tb.fns Cs k 11 [I i] M=.ok (bT true,M):=w;have lt1:∀{M:Mem},qu M .lt (I (l-1)) (I i)=some (decide (l-1<i)):=λ{M}=>rfl;have lt2:∀{M:Mem},qu M .lt (I i) (N A.length)=some (decide (i<(A.length:Int))):=λ{M}=>rfl;have rr:rz A A.length l (I i::L)=(((decide (l<=i)&&decide (i<(A.length:Int)))&&zer A i.toNat)&&rz A A.length (i+1) L):=rfl;rw[rr];by_cases hl:l<=i
   ·have d1:decide (l-1<i)=true:=by simp;omega
    obtain⟨l',o',q⟩:=ih (i+1) (some (I i)) (by omega);refine⟨l',o',?_⟩;rw[show i+1-1=i by omega]at q;rw[qe,vi hl];by_cases d2:i<(A.length:Int)
    ·rw[vi d2]at lt2 ⊢;obtain⟨j,rfl⟩:∃j:Nat,i=j:=⟨i.toNat,by omega⟩
     have hj:j<A.length:=by omega
     have ix:∀{M:Mem},QH M (NL A) (I (j:Int))=some (N (A.getD j 1),true):=λ{M}=>qFO hj;have ne:∀{M:Mem},qu M .ne (N (A.getD j 1)) (N 0)=some (!zer A j):=λ{M}=>by rw[O2];rfl
     rw[wk];have lfA:(NL A).lf=false:=jQ A;generalize N A.length=p2 at *;generalize N (A.getD j 1)=z at *;generalize NL A=tA at *;cases hz:zer A j with
     |false=>rw[hz]at ne;simp[Jk,w,lt1,lt2,d1,-qV,i1,ix,ne]
     |true=>rw[hz]at ne;simp[Jk,w,lt1,lt2,d1,-qV,i1,ix,ne];exact q
    ·rw[vh d2]at lt2 ⊢;generalize N A.length=p2 at *;simp[Jk,w,lt1,lt2,d1]
   ·have d1:decide (l-1<i)=false:=by simp;omega
    refine⟨l,o,?_⟩;rw[qe,vh hl];simp[Jk,w,lt1,d1]
  ·rw[q]at w;exact⟨l,o,by rw[qe,qC8 q];simp[Jk,w]⟩
theorem neN{M:Mem}(L:List Nat):qu M .ne (NL L) (.lst [])=some (!decide (L=[])):=by
 cases L with
 |nil=>rfl
 |cons a r=>rfl
theorem qC2(hk:2<=k){s n:Nat}(hn:n<=100){ta:T}{K:List Nat}{M:Mem}:∀(L:List Nat) (l o:Option T),∃o',jC [] (.name 3) (pxs (glT gs) (Pk (glT gs) Tb.fns Cs k) [] h8) (L.map N) [some (.tup [N s,ta,NL K]),some (N n),l,o] M=
   if L.all (clo n K)=true then .ok (.nx [some (.tup [N s,ta,NL K]),some (N n),l,o'],M) else .ok (.rt (bT false),M)
 | [],l,o=>⟨o,by simp⟩
 |i::L,l,o=>by
  obtain⟨o',q⟩:=qC2 hk (s:=s) hn (ta:=ta) (K:=K) (M:=M) L l (some (N i));refine⟨o',?_⟩;have rg:=E8 (n:=n) (by omega);have c:=Jt (c:=pec (glT gs) (Pk (glT gs) Tb.fns Cs k) (.cons (.and (.cmp .eq (.bin .band (.var 0) (.var 1)) (.var 1)) (.cmp .notin (.var 0) (.idx (.var 2) (nE 2)))) .nil)) (e:=pe (glT gs) (Pk (glT gs) Tb.fns Cs k) (.var 0)) (M:=M) (σ:=[some (N i),some (.tup [N s,ta,NL K])]) (o:=none) (its:=List.range n) (λp=>decide (p&&& i=i)&&!decide (p∈K)) (λx=>x) (by simp[lim];omega) (λx _=>by
   have nt:=Q6 (M:=M) x K;have lfK:(NL K).lf=false:=jQ K;generalize NL K=tK at *;have bd:=A8 (M:=M) x i;cases hb:decide (x&&& i=i) with
   |false=>simp[bd,hb]
   |true=>simp[bd,hb,-qV,i2,nt]) (λx _ _=>by simp)
  rw[List.map_id']at c;have cl:decide ((List.range n).filter (λp=>decide (p&&& i=i)&&!decide (p∈K))=[])=clo n K i:=by
   rw[wx];unfold clo;simp only[vj,List.filter_eq_nil_iff,wb,vN,wB,Bool.not_eq_true',decide_eq_false_iff_not,wv];refine forall_congr' λp=>forall_congr' λ_=>?_;by_cases a:p&&& i=i<;>by_cases b:p∈K<;>simp[a,b]
  have ne:=λ{M:Mem}=>neN (M:=M) ((List.range n).filter λp=>decide (p&&& i=i)&&!decide (p∈K));rw[cl]at ne;generalize (List.range n).filter (λp=>decide (p&&& i=i)&&!decide (p∈K))=S at *;rw[List.map_cons,qe,List.all_cons];generalize NL S=tS at *;generalize L.all (clo n K)=bb at q ⊢;cases hc:clo n K i with
  |false=>rw[hc]at ne;simp[h8,rg,-zB,-qy,c,ne,lim]
  |true=>rw[hc]at ne;simp[h8,rg,-zB,-qy,c,ne,lim];exact q
theorem qFg{L:List V}:decide (L.filter (λv=>!bel 7 (.v v))=[])=L.all λv=>bel 7 (.v v):=by
 rw[wx];simp
theorem neV{M:Mem}(L:List V):qu M .ne (FL L) (.lst [])=some (!decide (L=[])):=by
 cases L with
 |nil=>rfl
 |cons a r=>rfl
theorem qBc(hk:5<=k){s:Nat}(hs:1<=s/\s<=5){A:List V}{K:List T}(h1:∀v∈A,OkV v)(h2:∀t∈K,Kd t)(hl:A.length<=100)(hK:K.length<=100)(M:Mem):Pk (glT gs) Tb.fns Cs k 13 [.tup [N s,FL A,.lst K]] M=.ok (bT (pl s A K),M):=by
 rw[qT t13 ⟨rfl,by decide⟩ (by omega),b13,show Cs.getD 13 []=[] from rfl];have w:∀M,Pk (glT gs) Tb.fns Cs (k-1) 11 [N s] M=.ok (bT true,M):=λM=>w11 (k:=k-1) (by omega) (.inl ⟨_,rfl⟩) M;have sh:∀{M:Mem},qc M .shl (N 1) (N s)=some (N (2 ^ s),true):=λ{M}=>by rw[D8 (by omega),Nat.one_mul]
 have sb:∀{M:Mem},qc M .sub (N 0) (N 1)=some (I (-1),true):=λ{M}=>rfl;have ln:∀{M:Mem},zb M .len [FL A]=some (N A.length,true):=λ{M}=>by rw[QF,wG]
 have ne:∀{M:Mem},qu M .ne (N A.length) (N (2 ^ s))=some (!decide (A.length=2 ^ s)):=λ{M}=>by rw[O2]
 have c:=k8 (gl:=glT gs) (P:=Pk (glT gs) Tb.fns Cs (k-1)) (c:=pec (glT gs) (Pk (glT gs) Tb.fns Cs (k-1)) (.cons (.or (.not (.call 11 (.cons (.var 0) .nil))) (.not (.cmp2 .le .le (nE 0) (.var 0) (nE 6)))) .nil)) (e:=pe (glT gs) (Pk (glT gs) Tb.fns Cs (k-1)) (.var 0)) (M:=M) (σ:=[]) T.v T.v (λv=>!bel 7 (.v v)) A [] none (by simp[lim];omega) (λv hv=>by
  have w:=λM=>w11 (k:=k-1) (by omega) (qBl (Zb (h1 v hv))) M;cases v with
  |int i=>
   have w:∀M,Pk (glT gs) Tb.fns Cs (k-1) 11 [I i] M=.ok (bT true,M):=w;have le:∀{M:Mem},qu M .le (N 0) (I i)=some (decide (0<=i)):=λ{M}=>rfl;have le6:∀{M:Mem},qu M .le (I i) (N 6)=some (decide (i<7)):=λ{M}=>by
    show some (decide (i<=6))=_;congr 1;rw[decide_eq_decide];omega
   have bb:bel 7 (I i)=(decide (0<=i)&&decide (i<7)):=rfl;rw[bb];cases h0:decide (0<=i) with
   |true=>simp[w,le,le6,h0]
   |false=>simp[w,le,h0]
  |bl b=>have w:∀M,Pk (glT gs) Tb.fns Cs (k-1) 11 [.v (.bl b)] M=.ok (bT false,M):=w;simp[w,bel]
  |non=>have w:∀M,Pk (glT gs) Tb.fns Cs (k-1) 11 [.v .non] M=.ok (bT false,M):=w;simp[w,bel]
  |str b=>have w:∀M,Pk (glT gs) Tb.fns Cs (k-1) 11 [.v (.str b)] M=.ok (bT false,M):=w;simp[w,bel]
  |_=>exact absurd (h1 _ hv) (by simp[OkV])) (λv hv=>by simp[T.lf])
 rw[List.nil_append]at c;have nev:=λ{M:Mem}=>neV (M:=M) (A.filter λv=>!bel 7 (.v v));rw[qFg]at nev;have ty1:∀{M:Mem},qh M (FL A)=some "list":=rfl;have sA:Zw M (FL A)=some (A.map T.v,[]):=rfl;have e0:T.lst ((A.filter λv=>!bel 7 (.v v)).map T.v)=FL (A.filter λv=>!bel 7 (.v v)):=rfl;rw[e0]at c;generalize FL (A.filter λv=>!bel 7 (.v v))=tF at *;unfold pl Z3;by_cases hd:A.length=2 ^ s
 ·rw[vi hd]at ne ⊢;cases hb:(A.all λv=>bel 7 (.v v)) with
  |false=>
   rw[hb]at nev;generalize A.map T.v=mA at *;generalize T.lst mA=tA at *;generalize N (2 ^ s)=p2 at *;generalize N A.length=la at *;simp[qW,-qV,-qg,-zB,-qy,i0,i1,i2,l3,w,ty1,sh,hs.1,hs.2,ln,ne,sA,c,nev,qA]
  |true=>
   rw[hb]at nev;have eA:=Zv hb;have lv:(A.map vn).length=2 ^ s:=by rw[wG,hd]
   obtain⟨l',o',q⟩:=qCU (k:=k-1) (by omega) (s:=s) (A:=A.map vn) (ky:=.lst K) (M:=M) K 0 none (by omega) h2;rw[lv,qCR (by omega) h2,<-eA,show (0:Int)-1=-1 from rfl]at q;have sK:Zw M (.lst K)=some (K,[]):=rfl;cases hr:ris ((2 ^ s:Nat):Int) 0 K with
   |false=>
    rw[hr,Bool.false_and,if_neg (by decide)]at q;generalize A.map T.v=mA at *;generalize T.lst mA=tA at *;generalize N (2 ^ s)=p2 at *;generalize N A.length=la at *;simp[qW,-qV,-qg,-zB,-qy,i0,i1,i2,l3,w,ty1,sh,hs.1,hs.2,ln,ne,sA,c,nev,sb,q,qA]
   |true=>
    obtain⟨eK,hx⟩:=A6 hr;rw[hr,Bool.true_and]at q;generalize hKn:K.map tn=Kn at *;subst eK;have e1:T.lst (Kn.map N)=NL Kn:=rfl;rw[e1]at q ⊢;cases hz:Kn.all (zer (A.map vn)) with
    |false=>
     rw[hz,if_neg (by decide)]at q;have:(Kn.all λx=>zer (A.map vn) x&&clo (2 ^ s) Kn x)=false:=by
      rw[List.all_eq_false]at hz ⊢;obtain⟨x,hx,h⟩:=hz;exact⟨x,hx,by simp[h]⟩
     rw[this];have sK:Zw M (NL Kn)=some (Kn.map N,[]):=rfl;have tyK:∀{M:Mem},qh M (NL Kn)=some "list":=rfl;generalize Kn.map N=mK at *;generalize NL Kn=tK at *;generalize A.map T.v=mA at *;generalize T.lst mA=tA at *;generalize N (2 ^ s)=p2 at *;generalize N A.length=la at *;simp[qW,-qV,-qg,-zB,-qy,i0,i1,i2,l3,w,ty1,tyK,sh,hs.1,hs.2,ln,ne,sA,sK,c,nev,sb,q,qA]
    |true=>
     rw[hz,if_pos rfl]at q;obtain⟨o2,q2⟩:=qC2 (k:=k-1) (by omega) (s:=s) (n:=2 ^ s) (by omega) (ta:=FL A) (K:=Kn) (M:=M) Kn (some (I l')) o';have:(Kn.all λx=>zer (A.map vn) x&&clo (2 ^ s) Kn x)=Kn.all (clo (2 ^ s) Kn):=by
      rw[wx];rw[wb]at hz;simp only[wb,wB];exact⟨λh x hx=>(h x hx).2,λh x hx=>⟨hz x hx,h x hx⟩⟩
     rw[this];have sK:Zw M (NL Kn)=some (Kn.map N,[]):=rfl;have tyK:∀{M:Mem},qh M (NL Kn)=some "list":=rfl;generalize hc:Kn.all (clo (2 ^ s) Kn)=bb at *;generalize Kn.map N=mK at *;generalize NL Kn=tK at *;have eF:T.lst (A.map T.v)=FL A:=rfl;rw[eF]at *;generalize A.map T.v=mA at *;generalize FL A=tA at *;generalize N (2 ^ s)=p2 at *;generalize N A.length=la at *;cases bb with
     |false=>
      rw[if_neg (by decide)]at q2;simp[qW,-qV,-qg,-zB,-qy,i0,i1,i2,l3,w,ty1,tyK,sh,hs.1,hs.2,ln,ne,sA,sK,c,nev,sb,q,q2,qA]
     |true=>
      rw[if_pos rfl]at q2;simp[qW,-qV,-qg,-zB,-qy,i0,i1,i2,l3,w,ty1,tyK,sh,hs.1,hs.2,ln,ne,sA,sK,c,nev,sb,q,q2,qA]
 ·rw[vh hd]at ne ⊢;generalize A.map T.v=mA at *;generalize T.lst mA=tA at *;generalize N (2 ^ s)=p2 at *;generalize N A.length=la at *;simp[qW,-qV,-qg,i0,i1,i2,l3,w,ty1,sh,hs.1,hs.2,ln,ne,qA]
end
end _M
namespace _M
open PySem PySem.Spec _P
open _L (V)
def Ris(lo hi:Nat):List Nat->Prop
 | []=>True
 |x::L=>lo<=x/\x<hi/\Ris (x+1) hi L
structure Pn(s:Nat)(A K:List Nat):Prop where
 s1:1<=s
 s5:s<=5
 len:A.length=2 ^ s
 a7:∀x∈A,x<7
 ris:Ris 0 (2 ^ s) K
 zero:∀i∈K,A[i]?=some 0
 up:∀i∈K,∀p,p<2 ^ s->p&&& i=i->p∈K
theorem A3{hi:Nat}:∀{L:List Nat}{lo:Nat},Ris lo hi L->L.length<=hi-lo
 | [],_,_=>wu _
 |x::r,lo,⟨h1,h2,h3⟩=>by have:=A3 h3;rw[List.length_cons];omega
theorem ZA(q:Nat->Bool):∀(n lo:Nat),Ris lo (lo+n) ((List.range' lo n).filter q)
 | 0,lo=>trivial
 |n+1,lo=>by
  have ih:=ZA q n (lo+1);rw[List.range'_succ];have e:lo+1+n=lo+(n+1):=by omega
  rw[e]at ih;cases h:q lo with
  |true=>rw[vJ h];exact⟨wF _,by omega,ih⟩
  |false=>
   rw[vW (by rw[h];decide)];have mono:∀(L:List Nat) (a b hi:Nat),a<=b->Ris b hi L->Ris a hi L:=λL a b hi hab h=>by
    cases L with
    |nil=>trivial
    |cons x L=>exact⟨wM hab h.1,h.2.1,h.2.2⟩
   exact mono _ _ _ _ (by omega) ih
theorem E3{β:Type}(g:β->T){gl:List T}{P:Nat->List T->Mem->PR (TB×Mem)}{e:TS->Mem->PR (TB×Mem)}{σ:TS}{I:Mem->Prop}{Rl:Nat->β->Prop}:∀(its:List Nat) (ys:List T) (b:Bool) (o:Option T) (M:Mem),ys.length+its.length<=lim->I M ->
  (∀x∈its,∀M,I M->∃y M',e (some (N x)::σ) M=.ok ((g y,true),M')/\I M'/\Rl x y) ->
  ∃(K:List β) (M':Mem),ql [] (.name 0) (pec gl P .nil) e (its.map N) ys b (o::σ) M=.ok ((.lst (ys++K.map g),b),M')/\I M'/\K.length=its.length/\∀(i x:Nat) (y:β),its[i]?=some x->K[i]?=some y->Rl x y
 | [],ys,b,o,M,_,hI,_=>⟨[],M,by simp[ql],hI,rfl,λi x y h=>by simp at h⟩
 |x::r,ys,b,o,M,hl,hI,he=>by
  obtain⟨y,M1,e1,i1,r1⟩:=he x (wP ..) M hI;rw[List.map_cons];unfold ql;rw[show zV (.name 0) (N x) (o::σ)=some (some (N x)::σ) from rfl];dsimp only;rw[qy,tD];dsimp only;rw[if_pos rfl,e1,tD];dsimp only;rw[if_pos ⟨by simp at hl ⊢;omega,rfl⟩];obtain⟨K,M2,e2,i2,l2,r2⟩:=E3 g (gl:=gl) (P:=P) (I:=I) (Rl:=Rl) r (ys++[g y]) b (some (N x)) M1 (by simp at hl ⊢;omega) i1 (λz hz=>he z (wN _ hz));refine⟨y::K,M2,?_,i2,by simp[l2],λi x' y' h1 h2=>?_⟩
  ·rw[Bool.and_true,e2];simp
  ·cases i with
   |zero=>cases h1;cases h2;exact r1
   |succ i=>exact r2 i x' y' h1 h2
theorem Kept.refl{n:Nat}{M:Mem}(g:qAN M n):Kept n M M:=⟨g,rfl,λ_ _=>rfl⟩
section
variable{k:Nat}
theorem qA0(p i:Nat)(h:p&&& i=i):i<=p:=by rw[<-h];exact Nat.and_le_left
theorem qEB(hk:2<=k){M:Mem}{n:Nat}(g:qAN M n):∃s A K f M',Pk (glT gs) Tb.fns Cs k 12 [.cell n] M=.ok ((.tup [N s,NL A,NL K],f),M')/\Kept n M M'/\Pn s A K:=by
 rw[qT t12 ⟨rfl,by decide⟩ (by omega),b12,show Cs.getD 12 []=[] from rfl];obtain⟨d,M1,e1,hd,k1⟩:=out (k:=k-1) (by omega) g (m:=5) (by omega);obtain⟨w,M2,e2,hw,k2⟩:=out (k:=k-1) (by omega) k1.good (m:=3) (by omega);have pe5:2 ^ (1+d)<=32:=vP (n:=2) (by decide) (show 1+d<=5 by omega);have pp:0<2 ^ (1+d):=Nat.two_pow_pos _;obtain⟨x,M3,e3,hx,k3⟩:=out (k:=k-1) (by omega) k2.good (m:=2 ^ (1+d)) (by omega);obtain⟨z,M4,e4,hz,k4⟩:=out (k:=k-1) (by omega) k3.good (m:=2) (by omega);have sh:∀{M:Mem},qc M .shl (N 1) (N (1+d))=some (N (2 ^ (1+d)),true):=λ{M}=>by rw[D8 (by omega),Nat.one_mul]
 obtain⟨s,hs⟩:∃s,s=1+d:=⟨_,rfl⟩
 rw[<-hs]at sh pe5 pp hx e3;have rg:=E8 (n:=2 ^ s) (by omega);have c:=Jt (c:=pec (glT gs) (Pk (glT gs) Tb.fns Cs (k-1)) (.cons (.or (.and (.cmp .eq (.var 2) (nE 1)) (.cmp .ge (.var 0) (.var 1))) (.and (.cmp .eq (.var 2) (nE 2)) (.cmp .eq (.bin .band (.var 0) (.var 1)) (.var 1)))) .nil)) (e:=pe (glT gs) (Pk (glT gs) Tb.fns Cs (k-1)) (.var 0)) (M:=M3) (σ:=[some (N x),some (N w)]) (o:=none) (its:=List.range (2 ^ s)) (λt=>(decide (w=1)&&decide (x<=t))||(decide (w=2)&&decide (t&&& x=x))) (λt=>t) (by simp[lim];omega) (λt _=>by
  by_cases h1:w=1
  ·by_cases h2:x<=t<;>simp[h1,h2]
  ·by_cases h2:w=2<;>simp[h1,h2,A8]) (λt _ _=>by simp)
 rw[List.map_id']at c;obtain⟨q,hq⟩:∃q:Nat->Bool,q=λt=>(decide (w=1)&&decide (x<=t))||(decide (w=2)&&decide (t&&& x=x)):=⟨_,rfl⟩
 rw[<-hq]at c;obtain⟨K,hK⟩:∃K,K=(List.range (2 ^ s)).filter q:=⟨_,rfl⟩
 rw[<-hK]at c;obtain⟨mo,hm,hm7⟩:∃mo,[N 2,N 7][z]?=some (N mo)/\(0<mo/\mo<=7):=by
  have:z=0\/z=1:=by omega
  rcases this with rfl|rfl
  ·exact⟨2,rfl,by decide⟩
  ·exact⟨7,rfl,by decide⟩
 obtain⟨A,M5,e5,k5,l5,r5⟩:=E3 N (gl:=glT gs) (P:=Pk (glT gs) Tb.fns Cs (k-1)) (e:=pe (glT gs) (Pk (glT gs) Tb.fns Cs (k-1)) (.bin .mul (.call 10 (.cons (.var 1) (.cons (.var 3) .nil))) (.blt .int (.cons (.cmp .notin (.var 0) (.var 2)) .nil)))) (σ:=[some (.cell n),some (NL K),some (N mo)]) (I:=Kept n M4) (Rl:=λt y=>y<7/\(t∈K->y=0)) (List.range (2 ^ s)) [] true none M4 (by simp[lim];omega) (Kept.refl k4.good) (λt _ M' hI=>by
  obtain⟨y,M6,e6,hy,k6⟩:=out (k:=k-1) (by omega) hI.good (m:=mo) (by omega);have ml:∀{M:Mem}(v:Nat),qc M .mul (N y) (N v)=some (N (y*v),true):=λ{M} v=>F7 (.inl (by omega));have ni:∀{M:Mem},qu M .notin (N t) (NL K)=some (!decide (t∈K)):=λ{M}=>Q6 t K;by_cases ht:t∈K
  ·rw[vi ht]at ni;exact⟨y*0,M6,by simp[e6,ml,ni],hI.trans k6,by simp⟩
  ·rw[vh ht]at ni;exact⟨y*1,M6,by simp[e6,ml,ni],hI.trans k6,by omega,λz=>absurd z ht⟩)
 rw[List.nil_append]at e5;have e5:ql _ _ _ _ _ _ _ _ _=.ok ((NL A,true),M5):=e5;rw[List.length_range]at l5;have memK:∀t,t∈K↔t<2 ^ s/\q t=true:=λt=>by rw[hK,List.mem_filter,vN]
 refine⟨s,A,K,false,M5,?_,(((k1.trans k2).trans k3).trans k4).trans k5,⟨by omega,by omega,l5,λy hy=>?_,?_,λi hi=>?_,λi hi p hp hpi=>?_⟩⟩
 ·clear r5 memK hq hK;have nK:=jQ K;have nA:=jQ A;have m0:M5.length=M.length:=((((k1.trans k2).trans k3).trans k4).trans k5).len;generalize NL K=tK at *;generalize NL A=tA at *;generalize (List.range (2 ^ s)).map N=its at *;have ad1:∀{M:Mem},qc M .add (N 1) (N d)=some (N s,true):=λ{M}=>by rw[hs];exact jY _ _
  simp[e1,ad1,sh,e2,e3,rg,c,-zB,-qy,e4,lim,hm,e5,nK,nA];rw[qA m0]
 ·obtain⟨i,hi,rfl⟩:=vF.mp hy;exact(r5 i i _ (by rw[vU (by omega)]) (wE hi)).1
 ·rw[hK,List.range_eq_range'];have:=ZA q (2 ^ s) 0
  rwa [Nat.zero_add]at this
 ·have hi2:=((memK i).mp hi).1;have:=(r5 i i A[i] (by rw[vU (by omega)]) (wE (by omega))).2 hi;rw[wE (show i<A.length by omega),this]
 ·refine(memK p).mpr ⟨hp,?_⟩;have h2:=((memK i).mp hi).2;rw[hq]at h2 ⊢;simp only[wv,wB,vj]at h2 ⊢;rcases h2 with⟨a,b⟩|⟨a,b⟩
  ·exact .inl ⟨a,wM b (qA0 p i hpi)⟩
  ·refine .inr ⟨a,?_⟩;rw[<-b,<-Nat.and_assoc,hpi]
end
noncomputable abbrev iv(L:List Nat):List V:=L.map λ(n:Nat)=>V.int (n:Int)
theorem qC3(L:List Nat):NL L=FL (iv L):=by
 show T.lst (L.map N)=T.lst ((L.map λ(n:Nat)=>V.int (n:Int)).map T.v);rw[vM];rfl
theorem jD{n:Nat}(h:n<=1000):OkV (.int n):=qEk h
theorem shV{v:V}(h:OkV v)(n:Nat):Sh n 1100 (.v v):=by
 cases v with
 |int i=>exact(qEn h n).mono (by decide)
 |bl b=>exact(qGb b n).mono (by decide)
 |non=>exact(q8 n).mono (by decide)
 |str x=>rcases h with rfl|rfl<;>exact qFA (by decide) (by decide) n
 |_=>exact h.elim
theorem shE{t:T}(h:OkE t)(n:Nat):Sh (n+1) 1100 t:=by
 cases h with
 |v h=>exact shV h _
 |l=>exact Sh.lst (m:=200) (qFH (qDw (by decide) n)) (by simp)
theorem shZ{t:T}(h:OkZ t)(n:Nat):Sh (n+1) 60000 t:=by
 cases h with
 |v h=>exact(shV h _).mono (by decide)
 |s=>exact(qFA (by decide) (by decide) _).mono (by decide)
 |t=>exact Sh.tup (m:=200) (qFH (qDw (by decide) n)) (by simp)
theorem shA{A:List V}(h:∀v∈A,OkV v)(hl:A.length<=50)(n:Nat):Sh (n+1) 60000 (FL A):=Sh.lst (m:=1100) (λt ht=>by
 obtain⟨v,hv,rfl⟩:=wy.mp ht;exact shV (h v hv) n) (by rw[wG];omega)
theorem qGf{A:List V}(h:∀v∈A,OkV v)(hl:A.length<=50)(n:Nat):Sh (n+1) 60000 (FT A):=Sh.tup (m:=1100) (λt ht=>by
 obtain⟨v,hv,rfl⟩:=wy.mp ht;exact shV (h v hv) n) (by rw[wG];omega)
theorem shK{K:List T}(h:∀t∈K,OkE t)(hl:K.length<=50)(n:Nat):Sh (n+2) 60000 (.lst K):=Sh.lst (m:=1100) (λt ht=>shE (h t ht) n) (by omega)
theorem qGT{K:List T}(h:∀t∈K,OkE t)(hl:K.length<=50)(n:Nat):Sh (n+2) 60000 (.tup K):=Sh.tup (m:=1100) (λt ht=>shE (h t ht) n) (by omega)
def Shw(t:T):Prop:=∃x:Str,∀M:Mem,zb M .repr [t]=some (.v (.str x),true)
theorem Qg{ts:List T}(h:∀t∈ts,Sh 4 60000 t)(hl:ts.length<=4):Shw (.tup ts):=qDB (M:=[]) (Sh.tup (m':=300000) h (by omega)) (by decide)
theorem qAe{ts:List T}(h:∀t∈ts,Sh 4 60000 t)(hl:ts.length<=4):Shw (.lst ts):=qDB (M:=[]) (Sh.lst (m':=300000) h (by omega)) (by decide)
theorem z9:Shw (.v .non):=⟨_,λM=>rfl⟩
def Th(t:T)(b:Bool):Prop:=(∀k,5<=k->∀M:Mem,Pk (glT gs) Tb.fns Cs k 7 [t] M=.ok (bT b,M))/\(∀k,5<=k->∀M:Mem,Pk (glT gs) Tb.fns Cs k 13 [t] M=.ok (bT b,M))/\Shw t
theorem i8{s:Nat}(hs:1<=s/\s<=5):OkZ (N s):=.v (x:=.int s) (jD (by omega))
theorem jn{s:Nat}(hs:1<=s/\s<=5){A:List V}{K:List T}(ha:∀v∈A,OkV v)(hb:∀t∈K,OkE t)(la:A.length<=50)(lb:K.length<=50):Th (.tup [N s,FL A,.lst K]) (pl s A K):=
 ⟨λk hk M=>qEb hk hs ha (λt ht=>(hb t ht).kd) (by omega) (by omega) M,λk hk M=>qBc hk hs ha (λt ht=>(hb t ht).kd) (by omega) (by omega) M,Qg (qB9 (shZ (i8 hs) 3) (shA ha la 3) (shK hb lb 2)) (by simp)⟩
theorem qAZ{t:T}(hf:OkZ t)(hz:sz t=false){A:List V}{K:List T}(ha:∀v∈A,OkV v)(hb:∀t∈K,OkE t)(la:A.length<=50)(lb:K.length<=50):Th (.tup [t,FL A,.lst K]) false:=
 ⟨λk hk M=>g7 (by omega) hf.kd hz _ _ M,λk hk M=>V4 (by omega) hf.kd hz _ _ M,Qg (qB9 (shZ hf 3) (shA ha la 3) (shK hb lb 2)) (by simp)⟩
theorem j9{s:Nat}(hs:1<=s/\s<=5){x:T}{ty:String}(e:∀M:Mem,qh M x=some ty)(hn:¬ ty="list")(hx:Sh 4 60000 x){K:List T}(hb:∀t∈K,OkE t)(lb:K.length<=50):Th (.tup [N s,x,.lst K]) false:=
 ⟨λk hk M=>qGO (by omega) hs e hn _ M,λk hk M=>qDl (by omega) hs e hn _ M,Qg (qB9 (shZ (i8 hs) 3) hx (shK hb lb 2)) (by simp)⟩
theorem p9{s:Nat}(hs:1<=s/\s<=5){y:T}{ty:String}(e:∀M:Mem,qh M y=some ty)(hn:¬ ty="list")(hx:Sh 4 60000 y){A:List V}(ha:∀v∈A,OkV v)(la:A.length<=50):Th (.tup [N s,FL A,y]) false:=
 ⟨λk hk M=>two7 (by omega) hs ha (by omega) e hn M,λk hk M=>two13 (by omega) hs A e hn M,Qg (qB9 (shZ (i8 hs) 3) (shA ha la 3) hx) (by simp)⟩
theorem l8{ts:List T}(hl:ts.length≠3)(h4:ts.length<=4)(h:∀t∈ts,Sh 4 60000 t):Th (.tup ts) false:=⟨λk hk M=>qAq (by omega) hl M,λk hk M=>i6 (by omega) hl M,Qg h h4⟩
theorem qBz:Th (.v .non) false:=⟨λk hk M=>V5 (by omega) (ty:="NoneType") (λ_=>rfl) (by decide) M,λk hk M=>D5 (by omega) (ty:="NoneType") (λ_=>rfl) (by decide) M,z9⟩
theorem qCn{ts:List T}(h4:ts.length<=4)(h:∀t∈ts,Sh 4 60000 t):Th (.lst ts) false:=⟨λk hk M=>V5 (by omega) (ty:="list") (λ_=>rfl) (by decide) M,λk hk M=>D5 (by omega) (ty:="list") (λ_=>rfl) (by decide) M,qAe h h4⟩
theorem Z1{K:List Nat}(h:∀x∈K,x<=1000):∀t∈K.map N,OkE t:=λt ht=>by
 obtain⟨x,hx,rfl⟩:=wy.mp ht;exact .v (x:=.int x) (jD (h x hx))
theorem qCk{A:List Nat}(h:∀x∈A,x<=1000):∀v∈iv A,OkV v:=λt ht=>by
 obtain⟨x,hx,rfl⟩:=wy.mp ht;exact jD (h x hx)
theorem u8{n:Nat}:∀{L:List Nat}{l:Nat},Ris l n L->ris n l (L.map N)=true
 | [],_,_=>rfl
 |x::L,l,⟨h1,h2,h3⟩=>by
  have:=u8 (n:=n) (L:=L) (l:=x+1) h3;show (((decide ((0:Int)<=x)&&decide ((x:Int)<n))&&decide ((l:Int)<=x))&&ris n ((x:Int)+1) (L.map N))=true;rw[show ((x:Int)+1)=((x+1:Nat):Int) by push_cast;rfl,this];simp;omega
theorem A0{n:Nat}:∀{L:List Nat}{l:Nat},Ris l n L->∀x∈L,x<n
 | [],_,_,x,h=>by simp at h
 |y::L,l,⟨h1,h2,h3⟩,x,h=>by
  rcases wI.mp h with rfl|h
  ·exact h2
  ·exact A0 h3 x h
theorem qCN(K:List Nat):(K.map N).map tn=K:=by
 rw[vM]
 conv=>rhs;rw[<-List.map_id K]
 exact List.map_congr_left λx _=>by show ((x:Int)).toNat=x;omega
theorem qC5(A:List Nat):(iv A).map vn=A:=by
 rw[vM]
 conv=>rhs;rw[<-List.map_id A]
 exact List.map_congr_left λx _=>by show ((x:Int)).toNat=x;omega
theorem qAu{s:Nat}{A K:List Nat}(h:Pn s A K):Th (.tup [N s,NL A,NL K]) true:=by
 have pe5:2 ^ s<=32:=vP (n:=2) (by decide) h.s5;have lK:=A3 h.ris;have t:=jn ⟨h.s1,h.s5⟩ (A:=iv A) (K:=K.map N) (qCk λx hx=>by have:=h.a7 x hx;omega) (Z1 λx hx=>by have:=A0 h.ris x hx;omega) (by rw[wG,h.len];omega) (by rw[wG];omega);have c:pl s (iv A) (K.map N)=true:=by
  unfold pl Z3;rw[qCN,qC5];have r:=u8 h.ris;rw[show ((0:Nat):Int)=0 from rfl]at r;rw[r];have a7:((iv A).all λv=>bel 7 (.v v))=true:=by
   rw[List.all_map,wb];intro x hx;have:=h.a7 x hx;show (decide ((0:Int)<=x)&&decide ((x:Int)<7))=true;simp;omega
  rw[a7,wG,h.len];have z:(K.all λx=>zer A x&&clo (2 ^ s) K x)=true:=by
   rw[wb];intro x hx;have h0:=h.zero x hx;rw[wB];refine⟨?_,?_⟩
   ·unfold zer;rw[wg,h0];rfl
   ·unfold clo;rw[wb];intro p hp;have hp:=vN.mp hp;by_cases e:p&&& x=x
    ·simp[e,h.up x hx p hp e]
    ·simp[e]
  rw[z];simp
 rw[c,<-qC3]at t;exact t
end _M
namespace _M
open PySem PySem.Spec _P
open _L (V)
theorem T7:∀L:List V,T.lfs (L.map T.v)=true
 | []=>by rw[List.map_nil,T.lfs]
 |v::L=>by rw[List.map_cons,T.lfs,T7 L,T.lf];rfl
theorem qDz{M:Mem}{X Y:List V}(h:X.length+Y.length<=1000):qc M .add (FL X) (FL Y)=some (FL (X++Y),true):=by
 rw[QT (by rw[wG,wG];exact wM h (by decide))];unfold lT;rw[<-List.map_append,T7]
theorem JR{X:List V}{m:Nat}:ji (X.map T.v) (some (m:Int)) none=(X.drop m).map T.v:=by
 by_cases h:m<=X.length
 ·rw[JQ (by rw[wG];exact h),List.map_drop]
 ·unfold ji;rw[_H.sIx_nat,_H.sIx_none,wG,Nat.min_eq_right (by omega),List.drop_eq_nil_of_le (show X.length<=m by omega),Nat.sub_self];rfl
theorem O3{X:List V}{m:Nat}(h:m<=X.length):ji (X.map T.v) none (some (m:Int))=(X.take m).map T.v:=by
 rw[JN (by rw[wG];exact h),List.map_take]
theorem qAQ{vs:List V}(h:∀v∈vs,OkV v){w:Nat}(hw:w<vs.length):∃v,(vs.map T.v)[w]?=some (.v v)/\OkV v/\v∈vs:=by
 refine⟨vs[w],?_,h _ (wn ..),wn ..⟩;rw[we,wE hw];rfl
theorem qEC:OkV (.int (-1)):=by show Bd (-1);unfold Bd;decide
theorem qCj{L:List V}(h:∀v∈L,OkV v){v:V}(hv:OkV v)(i j:Nat):∀x∈L.take i++[v]++L.drop j,OkV x:=λx hx=>by
 simp only[wJ,wU]at hx;rcases hx with(hx|rfl)|hx
 ·exact h x (ve hx)
 ·exact hv
 ·exact h x (vG hx)
theorem qAX(L:List V)(v:V)(i j:Nat):(L.take i++[v]++L.drop j).length<=L.length+1+L.length:=by
 simp;omega
section
variable{k s n:Nat}{A:List V}{K:List Nat}{M:Mem}
structure Pz(s:Nat)(A:List V)(K:List Nat):Prop where
 s1:1<=s
 s5:s<=5
 len:A.length=2 ^ s
 okA:∀v∈A,OkV v
 lt:∀x∈K,x<2 ^ s
 lK:K.length<=2 ^ s
theorem Pz.p5(h:Pz s A K):2 ^ s<=32:=vP (n:=2) (by decide) h.s5
theorem Pz.okK(h:Pz s A K):∀t∈K.map N,OkE t:=Z1 λx hx=>by have:=h.lt x hx;have:=h.p5;omega
theorem qEF(h:Pz s A K){w at_ p:Nat}(hw:w<7)(hat:at_<2 ^ s){x0 x1:T}{r:Ss}:
  ∃t b,pxs (glT gs) (Pk (glT gs) Tb.fns Cs k) [] (.cons (.ifs (.cmp .lt (.var 6) (nE 7)) (.cons (.asg (.name 9) (.idx (.lst (.cons (nE 7) (.cons (.bin .sub (nE 0) (nE 1)) (.cons (.cst (V.bl true)) (.cons (.cst V.non) (.cons (.cst (V.str "1")) (.cons (nE 1) (.cons (nE 6) .nil)))))))) (.var 6))) (.cons (.ifs (.and (.cmp .gt (.var 6) (nE 4)) (.cmp .ne (.var 4) (.lst .nil))) (.cons (.asg (.name 7) (.idx (.var 4) (.bin .mod (.var 8) (.blt .len (.cons (.var 4) .nil))))) .nil) .nil) (.cons (.ret (.tup (.cons (.var 2) (.cons (.bin .add (.bin .add (.sl (.var 3) .nil (.cons (.var 7) .nil)) (.lst (.cons (.var 9) .nil))) (.sl (.var 3) (.cons (.bin .add (.var 7) (nE 1)) .nil) .nil)) (.cons (.var 4) .nil))))) .nil))) .nil) r)
   [some x0,some x1,some (N s),some (FL A),some (NL K),some (N (2 ^ s)),some (N w),some (N at_),some (N p),none,none] M=.ok (.rt (t,false),M)/\Th t b:=by
 have p5:=h.p5;have sb:∀{M:Mem},qc M .sub (N 0) (N 1)=some (.v (.int (-1)),true):=λ{M}=>rfl;obtain⟨v,ev,hv,_⟩:=qAQ (vs:=[.int (7:Nat),.int (-1),.bl true,.non,.str "1",.int (1:Nat),.int (6:Nat)]) (λv hv=>by
  simp only[wI,wT,or_false]at hv;rcases hv with rfl|rfl|rfl|rfl|rfl|rfl|rfl
  ·exact jD (by decide)
  ·exact qEC
  ·trivial
  ·trivial
  ·exact .inr rfl
  ·exact jD (by decide)
  ·exact jD (by decide)) hw
 have ix:∀{M:Mem},QH M (.lst [N 7,.v (.int (-1)),.v (.bl true),.v .non,.v (.str "1"),N 1,N 6]) (N w)=some (.v v,true):=λ{M}=>by
  rw[zi];show Option.map _ ((List.map T.v [.int (7:Nat),.int (-1),.bl true,.non,.str "1",.int (1:Nat),.int (6:Nat)])[w]?)=_;rw[ev];rfl
 have lfK:(NL K).lf=false:=jQ K;have lf1:∀L:List V,lT (L.map T.v)=(FL L,true):=λL=>by unfold lT;rw[T7]
 have fin:∀a,a<2 ^ s->∃t b,(∀o10,pxs (glT gs) (Pk (glT gs) Tb.fns Cs k) [] (.cons (.ret (.tup (.cons (.var 2) (.cons (.bin .add (.bin .add (.sl (.var 3) .nil (.cons (.var 7) .nil)) (.lst (.cons (.var 9) .nil))) (.sl (.var 3) (.cons (.bin .add (.var 7) (nE 1)) .nil) .nil)) (.cons (.var 4) .nil))))) .nil)
   [some x0,some x1,some (N s),some (FL A),some (NL K),some (N (2 ^ s)),some (N w),some (N a),some (N p),some (.v v),o10] M=.ok (.rt (t,false),M))/\Th t b:=λa ha=>by
  have ct:ji (A.map T.v) none (some (a:Int))=(A.take a).map T.v:=O3 (by rw[h.len];omega);have cdr:ji (A.map T.v) (some ((a:Int)+1)) none=(A.drop (a+1)).map T.v:=by have:=JR (X:=A) (m:=a+1);rw[<-this];push_cast;rfl
  have ad1:∀{M:Mem},qc M .add (FL (A.take a)) (.lst [.v v])=some (FL (A.take a++[v]),true):=λ{M}=>qDz (Y:=[v]) (by simp;have:=h.len;omega);have ad2:∀{M:Mem},qc M .add (FL (A.take a++[v])) (FL (A.drop (a+1)))=some (FL (A.take a++[v]++A.drop (a+1)),true):=λ{M}=>qDz (by have:=h.len;simp;omega);refine⟨.tup [N s,FL (A.take a++[v]++A.drop (a+1)),NL K],_,λo10=>?_,jn ⟨h.s1,h.s5⟩ (K:=K.map N) (qCj h.okA hv _ _) h.okK (by have:=h.len;have:=qAX A v a (a+1);simp at this ⊢;omega) (by rw[wG];have:=h.lK;omega)⟩;generalize NL K=tK at *;simp[-List.map_take,-List.map_drop,-List.map_append,-List.append_assoc,-List.cons_append,lim,ct,lf1,ad1,cdr,ad2,lfK]
 have gt:∀{M:Mem},qu M .gt (N w) (N 4)=some (decide (4<w)):=λ{M}=>by rw[qDx]
 have nek:=λ{M:Mem}=>neN (M:=M) K;have ln:∀{M:Mem},zb M .len [NL K]=some (N K.length,true):=λ{M}=>by show zb M .len [.lst (K.map N)]=_;rw[QF,wG]
 by_cases c:4<w/\K≠[]
 ·have lp:0<K.length:=List.length_pos_iff.mpr c.2;have hi:p % K.length<K.length:=vb _ lp;have md:∀{M:Mem},qc M .mod (N p) (N K.length)=some (N (p % K.length),true):=λ{M}=>Qy lp;have ik:∀{M:Mem},QH M (NL K) (N (p % K.length))=some (N K[p % K.length],true):=λ{M}=>by
   show QH M (.lst (K.map N)) _=_;rw[zi,we,wE hi];rfl
  obtain⟨t,b,e,th⟩:=fin K[p % K.length] (h.lt _ (wn hi));refine⟨t,b,?_,th⟩;have e:=e none;rw[vi c.1]at gt;rw[vh c.2]at nek;generalize hg:(.cons (.ret _) .nil:Ss)=rr at *;generalize NL K=tK at *;generalize N K.length=lk at *;generalize N K[p % K.length]=a0 at *;generalize N (p % K.length)=a1 at *;simp[hw,sb,lim,ix,gt,nek,ln,md,ik,e]
 ·obtain⟨t,b,e,th⟩:=fin at_ hat;refine⟨t,b,?_,th⟩;have e:=e none;generalize hg:(.cons (.ret _) .nil:Ss)=rr at *;by_cases c1:4<w
  ·have c2:K=[]:=Classical.byContradiction λz=>c ⟨c1,z⟩;rw[vi c1]at gt;rw[vi c2]at nek;generalize NL K=tK at *;simp[hw,sb,lim,ix,gt,nek,e]
  ·rw[vh c1]at gt;generalize NL K=tK at *;simp[hw,sb,lim,ix,gt,e]
end
end _M
namespace _M
open PySem PySem.Spec _P
open _L (V)
section
variable{k s n:Nat}{A:List V}{K:List Nat}{M:Mem}
noncomputable def odds:List T:=[.v (.bl true),.v .non,.v (.str "0"),.lst [N 0]]
noncomputable def QX(K:List Nat)(p:Nat)(o:T):List T:=(K.take p).map N++[o]++(K.drop p).map N
noncomputable def K2(s:Nat)(K:List Nat)(at_ p:Nat):List (List T):=
 [(K.take p++K.drop (p+1)).map N,K.reverse.map N,(K++K.drop (K.length-1)).map N,(zo (uniq ((K++[at_]).map λ(x:Nat)=>(x:Int)))).map λi=>T.v (.int i)]++odds.map (QX K p)++[(K++[2 ^ s]).map N]
theorem U5{X Y:List T}(hx:∀t∈X,OkE t)(hy:∀t∈Y,OkE t):∀t∈X++Y,OkE t:=λt ht=>(wJ.mp ht).elim (hx t) (hy t)
theorem j4(L:List Int):(uniq L).length<=L.length:=by rw[<-jc];exact PyProof.Rows.firstMet_length_le _ _
theorem z8(h:Pz s A K){at_ p:Nat}(hat:at_<2 ^ s)(hp:p<=K.length):∀L∈K2 s K at_ p,(∀t∈L,OkE t)/\L.length<=50:=by
 have p5:=h.p5;have lK:=h.lK;have sub:∀L:List Nat,(∀x∈L,x∈K)->∀t∈L.map N,OkE t:=λL hL=>Z1 λx hx=>by have:=h.lt x (hL x hx);omega
 have ins:∀o,OkE o->(∀t∈QX K p o,OkE t)/\(QX K p o).length<=50:=λo ho=>by
  refine⟨U5 (U5 (sub _ λx hx=>ve hx) λt ht=>by rw[wU.mp ht];exact ho) (sub _ λx hx=>vG hx),?_⟩;unfold QX;simp;omega
 intro L hL;unfold K2 odds at hL;simp only[List.map_cons,List.map_nil,List.cons_append,List.nil_append,wI,wT,or_false]at hL;rcases hL with rfl|rfl|rfl|rfl|rfl|rfl|rfl|rfl|rfl
 ·exact⟨sub _ λx hx=>(wJ.mp hx).elim ve vG,by simp;omega⟩
 ·exact⟨sub _ λx hx=>List.mem_reverse.mp hx,by simp;omega⟩
 ·exact⟨sub _ λx hx=>(wJ.mp hx).elim id vG,by simp;omega⟩
 ·refine⟨λt ht=>?_,?_⟩
  ·obtain⟨i,hi,rfl⟩:=wy.mp ht;have hi:=uniq_mem.mp ((zA _).mem_iff.mp hi);obtain⟨x,hx,rfl⟩:=wy.mp hi;refine .v (x:=.int (x:Int)) (jD ?_);rcases wJ.mp hx with hx|hx
   ·have:=h.lt x hx;omega
   ·have:=wU.mp hx;omega
  ·rw[wG,(zA _).length_eq];have:=j4 ((K++[at_]).map λ(x:Nat)=>(x:Int));rw[wG,wX]at this;simp only[List.length_cons,List.length_nil]at this;omega
 ·exact ins _ (.v (x:=.bl true) trivial)
 ·exact ins _ (.v (x:=.non) trivial)
 ·exact ins _ (.v (x:=.str "0") (.inl rfl))
 ·exact ins _ .l
 ·refine⟨Z1 λx hx=>?_,by simp;omega⟩;rcases wJ.mp hx with hx|hx
  ·have:=h.lt x hx;omega
  ·have:=wU.mp hx;omega
theorem qDG{M:Mem}(A B:List Nat)(h:A.length+B.length<=1000):qc M .add (NL A) (NL B)=some (NL (A++B),true):=by
 show qc M .add (.lst (A.map N)) (.lst (B.map N))=_;rw[QT (by rw[wG,wG];exact wM h (by decide))];unfold lT;rw[<-List.map_append,W1];rfl
theorem v6{X:List Nat}{m:Nat}(h:m<=X.length):ji (X.map N) none (some (m:Int))=(X.take m).map N:=by
 rw[JN (by rw[wG];exact h),List.map_take]
theorem m9{X:List Nat}{m:Nat}:ji (X.map N) (some (m:Int)) none=(X.drop m).map N:=by
 by_cases h:m<=X.length
 ·rw[JQ (by rw[wG];exact h),List.map_drop]
 ·unfold ji;rw[_H.sIx_nat,_H.sIx_none,wG,Nat.min_eq_right (by omega),List.drop_eq_nil_of_le (show X.length<=m by omega),Nat.sub_self];rfl
theorem i7{X:List Nat}:ji (X.map N) (some (-1)) none=(X.drop (X.length-1)).map N:=by
 unfold ji;rw[_H.sIx_none,wG];have:_H.sIx X.length 0 (some (-1))=X.length-1:=by
  unfold _H.sIx;simp;omega
 rw[this,List.map_drop];exact vY (by simp)
noncomputable def a14:E:=.lst (.cons (.bin .add (.sl (.var 4) .nil (.cons (.var 8) .nil)) (.sl (.var 4) (.cons (.bin .add (.var 8) (nE 1)) .nil) .nil)) (.cons (.rev (.var 4)) (.cons (.bin .add (.var 4) (.sl (.var 4) (.cons (.neg (nE 1)) .nil) .nil)) (.cons (.sset (.bin .add (.var 4) (.lst (.cons (.var 7) .nil)))) .nil))))
noncomputable def c14:E:=.comp (.list (.lst (.cons (.cst (V.bl true)) (.cons (.cst V.non) (.cons (.cst (V.str "0")) (.cons (.lst (.cons (nE 0) .nil)) .nil)))))) [none,some 4,some 8] (.name 0) .nil (.bin .add (.bin .add (.sl (.var 1) .nil (.cons (.var 2) .nil)) (.lst (.cons (.var 0) .nil))) (.sl (.var 1) (.cons (.var 2) .nil) .nil))
noncomputable abbrev Qn(x0 x1:T)(s:Nat)(A:List V)(K:List Nat)(w at_ p:Nat)(o9 o10:Option T):TS:=[some x0,some x1,some (N s),some (FL A),some (NL K),some (N (2 ^ s)),some (N w),some (N at_),some (N p),o9,o10]
noncomputable def Jm(K:List Nat)(at_ p:Nat):List T:=[NL (K.take p++K.drop (p+1)),NL K.reverse,NL (K++K.drop (K.length-1)),.lst ((zo (uniq ((K++[at_]).map λ(x:Nat)=>(x:Int)))).map λi=>T.v (.int i))]
theorem qCc(h:Pz s A K){w at_ p:Nat}(hp:p<=K.length){x0 x1:T}{o9 o10:Option T}:pe (glT gs) (Pk (glT gs) Tb.fns Cs k) a14 (Qn x0 x1 s A K w at_ p o9 o10) M=.ok ((.lst (Jm K at_ p),true),M):=by
 have p5:=h.p5;have lK:=h.lK;have lfK:(NL K).lf=false:=jQ K;have lt1:∀L:List Nat,lT (L.map N)=(NL L,true):=λL=>by unfold lT;rw[W1];rfl
 have sm:∀lo hi,Y1 (NL K) (K.map N) lo hi=some (lT (ji (K.map N) lo hi)):=λlo hi=>rfl;have its:∀{M:Mem},(NL K).its M=some (K.map N):=λ{M}=>rfl;have lis:∀{M:Mem},(NL K).lis M=some (K.map N):=λ{M}=>rfl;have ct:=v6 hp;have cd:ji (K.map N) (some ((p:Int)+1)) none=(K.drop (p+1)).map N:=by have:=m9 (X:=K) (m:=p+1);rw[<-this];push_cast;rfl
 have a1:∀{M:Mem},qc M .add (NL (K.take p)) (NL (K.drop (p+1)))=some (NL (K.take p++K.drop (p+1)),true):=λ{M}=>qDG _ _ (by simp;omega);have rv:lT (K.map N).reverse=(NL K.reverse,true):=by rw[<-List.map_reverse,lt1]
 have cl:=i7 (X:=K);have a2:∀{M:Mem},qc M .add (NL K) (NL (K.drop (K.length-1)))=some (NL (K++K.drop (K.length-1)),true):=λ{M}=>qDG _ _ (by simp;omega);have a3:∀{M:Mem},qc M .add (NL K) (.lst [N at_])=some (NL (K++[at_]),true):=λ{M}=>qDG K [at_] (by simp;omega);have li:∀{M:Mem},((NL (K++[at_])).lis M).bind qX=some ((K++[at_]).map λ(x:Nat)=>(x:Int)):=λ{M}=>by
  show (some ((K++[at_]).map N)).bind qX=_;rw[Option.bind_some,y8]
 have l64:((K++[at_]).map λ(x:Nat)=>(x:Int)).length<64:=by simp;omega
 unfold a14 Jm;unfold Qn;have im:qX [T.v (V.int (-1))]=some [-1]:=rfl;generalize (K++[at_]).map (λ(x:Nat)=>(x:Int))=IS at *;generalize NL (K++[at_])=u1 at *;generalize NL (K++K.drop (K.length-1))=u2 at *;generalize NL (K.take p++K.drop (p+1))=u4 at *;generalize NL K.reverse=u5 at *;have lt1:=lt1;have e1:=lt1 (K.take p);have e2:=lt1 (K.drop (p+1));have e3:=lt1 (K.drop (K.length-1));clear lt1;generalize NL (K.drop (K.length-1))=u3 at *;generalize NL (K.take p)=u6 at *;generalize NL (K.drop (p+1))=u7 at *;generalize (K.take p).map N=m6 at *;generalize (K.drop (p+1)).map N=m7 at *;generalize (K.drop (K.length-1)).map N=m3 at *;generalize K.map N=mK at *;generalize NL K=tK at *;simp[lim,its,lis,sm,ct,cd,a1,rv,cl,a2,a3,li,l64,im,qBB,e1,e2,e3,lfK]
theorem qCY(h:Pz s A K){w at_ p:Nat}(hp:p<=K.length){x0 x1:T}{o9 o10:Option T}:∃f,pe (glT gs) (Pk (glT gs) Tb.fns Cs k) c14 (Qn x0 x1 s A K w at_ p o9 o10) M=.ok ((.lst (odds.map λo=>.lst (QX K p o)),f),M):=by
 have p5:=h.p5;have lK:=h.lK;have lfK:(NL K).lf=false:=jQ K;have lt1:∀L:List Nat,lT (L.map N)=(NL L,true):=λL=>by unfold lT;rw[W1];rfl
 have sm:∀lo hi,Y1 (NL K) (K.map N) lo hi=some (lT (ji (K.map N) lo hi)):=λlo hi=>rfl;have its:∀{M:Mem},(NL K).its M=some (K.map N):=λ{M}=>rfl;have ct:=v6 hp;have cd:=m9 (X:=K) (m:=p);have ad:∀{M:Mem}(xs ys:List T),xs.length+ys.length<=1000->qc M .add (.lst xs) (.lst ys)=some (lT (xs++ys)):=λ{M} xs ys h=>QT (wM h (by decide));have l1:((K.take p).map N).length+1<=1000:=by simp;omega
 have l2:((K.take p).map N).length+1+((K.drop p).map N).length<=1000:=by simp;omega
 have c:=S9 (gl:=glT gs) (P:=Pk (glT gs) Tb.fns Cs k) (e:=pe (glT gs) (Pk (glT gs) Tb.fns Cs k) (.bin .add (.bin .add (.sl (.var 1) .nil (.cons (.var 2) .nil)) (.lst (.cons (.var 0) .nil))) (.sl (.var 1) (.cons (.var 2) .nil) .nil))) (M:=M) (σ:=[some (NL K),some (N p)]) (λo=>o) (λo=>.lst (QX K p o)) (λo=>T.lfs (QX K p o)) odds [] true none (by decide) (λx hx=>by
  have e1:=lt1 (K.take p);have e2:=lt1 (K.drop p);have n1:NL (K.take p)=.lst ((K.take p).map N):=rfl;have n2:NL (K.drop p)=.lst ((K.drop p).map N):=rfl;rw[n1]at e1;rw[n2]at e2;have b1:=λ{M:Mem}=>ad (M:=M) ((K.take p).map N) [x] l1;have b2:=λ{M:Mem}=>ad (M:=M) ((K.take p).map N++[x]) ((K.drop p).map N) (by rw[wX];exact l2);unfold QX;generalize (K.take p).map N=m6 at *;generalize (K.drop p).map N=m7 at *;generalize K.map N=mK at *;generalize NL K=tK at *;simp[-List.append_assoc,-List.cons_append,-List.singleton_append,lim,its,sm,ct,cd,e1,e2,b1,b2,lT,lfK])
 rw[List.map_id',List.nil_append]at c;refine⟨true&&odds.all λo=>T.lfs (QX K p o),?_⟩;unfold c14 Qn;have od:odds=[.v (.bl true),.v .non,.v (.str "0"),.lst [N 0]]:=rfl;generalize (true&&odds.all λo=>T.lfs (QX K p o))=f at *;generalize (odds.map λo=>T.lst (QX K p o))=R at *;rw[od]at c;generalize NL K=tK at *;simp[lim,-qy,c]
end
end _M
namespace _M
open PySem PySem.Spec _P
open _L (V)
noncomputable def S7:S:=(.ifs (.cmp .lt (.var 6) (nE 7)) (.cons (.asg (.name 9) (.idx (.lst (.cons (nE 7) (.cons (.bin .sub (nE 0) (nE 1)) (.cons (.cst (V.bl true)) (.cons (.cst V.non) (.cons (.cst (V.str "1")) (.cons (nE 1) (.cons (nE 6) .nil)))))))) (.var 6))) (.cons (.ifs (.and (.cmp .gt (.var 6) (nE 4)) (.cmp .ne (.var 4) (.lst .nil))) (.cons (.asg (.name 7) (.idx (.var 4) (.bin .mod (.var 8) (.blt .len (.cons (.var 4) .nil))))) .nil) .nil) (.cons (.ret (.tup (.cons (.var 2) (.cons (.bin .add (.bin .add (.sl (.var 3) .nil (.cons (.var 7) .nil)) (.lst (.cons (.var 9) .nil))) (.sl (.var 3) (.cons (.bin .add (.var 7) (nE 1)) .nil) .nil)) (.cons (.var 4) .nil))))) .nil))) .nil)
noncomputable def S16:S:=(.ifs (.cmp .lt (.var 6) (nE 16)) (.cons (.asg (.name 10) a14) (.cons (.asg (.name 10) (.bin .add (.var 10) c14)) (.cons (.ret (.tup (.cons (.var 2) (.cons (.var 3) (.cons (.idx (.bin .add (.var 10) (.lst (.cons (.bin .add (.var 4) (.lst (.cons (.var 5) .nil))) .nil))) (.bin .sub (.var 6) (nE 7))) .nil))))) .nil))) .nil)
noncomputable def S22:S:=(.ifs (.cmp .lt (.var 6) (nE 22)) (.cons (.ret (.tup (.cons (.idx (.lst (.cons (.bin .add (.var 2) (nE 1)) (.cons (.bin .sub (.var 2) (nE 1)) (.cons (.cst (V.bl true)) (.cons (.cst V.non) (.cons (.cst (V.str "2")) (.cons (.tup (.cons (nE 1) .nil)) .nil))))))) (.bin .sub (.var 6) (nE 16))) (.cons (.var 3) (.cons (.var 4) .nil))))) .nil) .nil)
noncomputable def R0:S:=(.asg (.name 10) (.lst (.cons (.tup (.cons (.var 2) (.cons (.bin .add (.var 3) (.lst (.cons (nE 0) .nil))) (.cons (.var 4) .nil)))) (.cons (.tup (.cons (.var 2) (.cons (.sl (.var 3) (.cons (nE 1) .nil) .nil) (.cons (.var 4) .nil)))) (.cons (.tup (.cons (.var 2) (.cons (.blt .tuple (.cons (.var 3) .nil)) (.cons (.var 4) .nil)))) .nil)))))
noncomputable def R1:S:=(.asg (.name 10) (.bin .add (.var 10) (.lst (.cons (.tup (.cons (.var 2) (.cons (.var 3) (.cons (.blt .tuple (.cons (.var 4) .nil)) .nil)))) (.cons (.lst (.cons (.var 2) (.cons (.var 3) (.cons (.var 4) .nil)))) (.cons (.tup (.cons (.var 2) (.cons (.var 3) .nil))) (.cons (.tup (.cons (.var 2) (.cons (.var 3) (.cons (.var 4) (.cons (nE 0) .nil))))) (.cons (.cst V.non) .nil))))))))
noncomputable def R2:S:=(.ret (.idx (.bin .add (.var 10) (.lst (.cons (.tup (.cons (.var 2) (.cons (.cst V.non) (.cons (.var 4) .nil)))) (.cons (.tup (.cons (.var 2) (.cons (.var 3) (.cons (.cst V.non) .nil)))) .nil)))) (.call 10 (.cons (.var 0) (.cons (nE 10) .nil)))))
section
variable{k s n:Nat}{A:List V}{K:List Nat}{M:Mem}
theorem qBr(h:Pz s A K){w at_ p:Nat}(hw:7<=w/\w<16)(hat:at_<2 ^ s)(hp:p<=K.length){x0 x1:T}{r:Ss}:
  ∃t f b,pxs (glT gs) (Pk (glT gs) Tb.fns Cs k) [] (.cons S16 r) (Qn x0 x1 s A K w at_ p none none) M=.ok (.rt (t,f),M)/\Th t b:=by
 have p5:=h.p5;have lK:=h.lK;have hj:w-7<(K2 s K at_ p).length:=by show w-7<9;omega
 obtain⟨okL,lL⟩:=z8 h hat hp _ (wn hj);have th:=jn ⟨h.s1,h.s5⟩ h.okA okL (by rw[h.len];omega) lL;obtain⟨f,ec⟩:=qCY (M:=M) (k:=k) (x0:=x0) (x1:=x1) (w:=w) (at_:=at_) (o9:=none) (o10:=some (.lst (Jm K at_ p))) h hp;have ea:=qCc (M:=M) (k:=k) (x0:=x0) (x1:=x1) (w:=w) (at_:=at_) (o9:=none) (o10:=none) h hp;have sb:∀{M:Mem},qc M .sub (N w) (N 7)=some (N (w-7),true):=λ{M}=>V1 hw.1;have a1:∀{M:Mem},qc M .add (NL K) (.lst [N (2 ^ s)])=some (NL (K++[2 ^ s]),true):=λ{M}=>qDG K [2 ^ s] (by simp;omega);have a2:∀{M:Mem},qc M .add (.lst (Jm K at_ p)) (.lst (odds.map λo=>.lst (QX K p o)))=some (lT (Jm K at_ p++odds.map λo=>.lst (QX K p o))):=λ{M}=>QT (by show 4+4<=lim;decide);have a3:∀{M:Mem},qc M .add (.lst (Jm K at_ p++odds.map λo=>.lst (QX K p o))) (.lst [NL (K++[2 ^ s])])=some (lT (Jm K at_ p++(odds.map λo=>.lst (QX K p o))++[NL (K++[2 ^ s])])):=λ{M}=>QT (by show 8+1<=lim;decide);have e9:Jm K at_ p++(odds.map λo=>.lst (QX K p o))++[NL (K++[2 ^ s])]=(K2 s K at_ p).map T.lst:=rfl;rw[e9]at a3;have ix:∀{M:Mem},QH M (.lst ((K2 s K at_ p).map T.lst)) (N (w-7))=some (.lst (K2 s K at_ p)[w-7],(T.lst (K2 s K at_ p)[w-7]).lf):=λ{M}=>by
  rw[zi,we,wE hj];rfl
 refine⟨.tup [N s,FL A,.lst (K2 s K at_ p)[w-7]],false,_,?_,th⟩;have lfK:(NL K).lf=false:=jQ K;have lfn:∀L,(T.lst L).lf=false:=λL=>rfl;unfold Qn at *;unfold S16;have lt4:lT (Jm K at_ p++odds.map λo=>.lst (QX K p o))=(.lst (Jm K at_ p++odds.map λo=>.lst (QX K p o)),T.lfs (Jm K at_ p++odds.map λo=>.lst (QX K p o))):=rfl;have lt5:lT ((K2 s K at_ p).map T.lst)=(.lst ((K2 s K at_ p).map T.lst),T.lfs ((K2 s K at_ p).map T.lst)):=rfl;generalize Jm K at_ p++(odds.map λo=>.lst (QX K p o))=FO at *;generalize Jm K at_ p=F4 at *;generalize (odds.map λo=>T.lst (QX K p o))=OD at *;generalize NL (K++[2 ^ s])=u1 at *;generalize (K2 s K at_ p)[w-7]=res at *;generalize (K2 s K at_ p).map T.lst=N9 at *;generalize T.lfs FO=f1 at *;generalize T.lfs N9=f2 at *;generalize NL K=tK at *;simp[-zi,hw.2,ea,ec,lim,a2,lt4,a1,a3,lt5,sb,ix,lfK]
theorem qCG(h:Pz s A K){w at_ p:Nat}(hw:16<=w/\w<22){x0 x1:T}{r:Ss}:
  ∃t f b,pxs (glT gs) (Pk (glT gs) Tb.fns Cs k) [] (.cons S22 r) (Qn x0 x1 s A K w at_ p none none) M=.ok (.rt (t,f),M)/\Th t b:=by
 have p5:=h.p5;have lK:=h.lK;have sb:∀{M:Mem},qc M .sub (N s) (N 1)=some (N (s-1),true):=λ{M}=>V1 h.s1;have sb7:∀{M:Mem},qc M .sub (N w) (N 16)=some (N (w-16),true):=λ{M}=>V1 hw.1
 let six:List T:=[N (s+1),N (s-1),.v (.bl true),.v .non,.v (.str "2"),.tup [N 1]]
 have hj:w-16<six.length:=by show w-16<6;omega
 have oz:OkZ six[w-16]:=by
  have all:∀t∈six,OkZ t:=λt ht=>by
   simp only[six,wI,wT,or_false]at ht;have:=h.s5;rcases ht with rfl|rfl|rfl|rfl|rfl|rfl
   ·exact .v (x:=.int ((s+1:Nat):Int)) (jD (by omega))
   ·exact .v (x:=.int ((s-1:Nat):Int)) (jD (by omega))
   ·exact .v (x:=.bl true) trivial
   ·exact .v (x:=.non) trivial
   ·exact .s
   ·exact .t
  exact all _ (wn hj)
 have ix:∀{M:Mem},QH M (.lst six) (N (w-16))=some (six[w-16],six[w-16].lf):=λ{M}=>by
  rw[zi,wE hj];rfl
 have th:∃b,Th (.tup [six[w-16],FL A,NL K]) b:=by
  generalize six[w-16]=t at *;cases hz:sz t with
  |false=>exact⟨_,qAZ oz hz h.okA h.okK (by rw[h.len];omega) (by rw[wG];omega)⟩
  |true=>
   obtain⟨j,rfl,hj⟩:∃j:Nat,t=N j/\(1<=j/\j<=5):=by
    cases t with
    |v x=>
     cases x with
     |int i=>
      have hz':(decide (1<=i)&&decide (i<=5))=true:=hz;simp at hz';exact⟨i.toNat,by unfold N;rw[Int.toNat_of_nonneg (by omega)],by omega⟩
     |_=>cases hz
    |_=>cases hz
   exact⟨_,jn hj (K:=K.map N) h.okA h.okK (by rw[h.len];omega) (by rw[wG];omega)⟩
 obtain⟨b,th⟩:=th;refine⟨_,false,b,?_,th⟩;have lfK:(NL K).lf=false:=jQ K;have six_e:six=[N (s+1),N (s-1),.v (.bl true),.v .non,.v (.str "2"),.tup [N 1]]:=rfl;generalize six[w-16]=t at *;rw[six_e]at ix;unfold S22 Qn;generalize NL K=tK at *;simp[-zi,hw.2,lim,sb,sb7,ix,lfK]
noncomputable def ten(s:Nat)(A:List V)(K:List Nat):List T:=[.tup [N s,FL (A++[.int 0]),NL K],.tup [N s,FL (A.drop 1),NL K],.tup [N s,FT A,NL K],.tup [N s,FL A,.tup (K.map N)],.lst [N s,FL A,NL K],.tup [N s,FL A],.tup [N s,FL A,NL K,N 0],.v .non,.tup [N s,.v .non,NL K],.tup [N s,FL A,.v .non]]
theorem qCV(h:Pz s A K):∀t∈ten s A K,∃b,Th t b:=λt ht=>by
 have p5:=h.p5;have lK:=h.lK;have la:=h.len;have hs:=And.intro h.s1 h.s5;have ha:=h.okA;have hb:=h.okK;have lA:A.length<=50:=by omega
 have lk:(K.map N).length<=50:=by rw[wG];omega
 have zs:=shZ (i8 hs) 3;have za:=shA ha lA 3;have zk:Sh 4 60000 (NL K):=shK hb lk 2;have zn:Sh 4 60000 (.v .non):=(q8 4).mono (by decide);have mem4:∀{p:T->Prop}{a b c d:T},p a->p b->p c->p d->∀t∈[a,b,c,d],p t:=λh1 h2 h3 h4 t ht=>by
  simp only[wI,wT,or_false]at ht;rcases ht with rfl|rfl|rfl|rfl;exact h1;exact h2;exact h3;exact h4
 unfold ten at ht;simp only[wI,wT,or_false]at ht;rcases ht with rfl|rfl|rfl|rfl|rfl|rfl|rfl|rfl|rfl|rfl
 ·exact⟨_,jn hs (K:=K.map N) (λv hv=>(wJ.mp hv).elim (ha v) λz=>by rw[wU.mp z];exact jD (n:=0) (by decide)) hb (by rw[wX];show A.length+1<=50;omega) lk⟩
 ·exact⟨_,jn hs (K:=K.map N) (λv hv=>ha v (vG hv)) hb (by rw[vI];omega) lk⟩
 ·exact⟨_,j9 hs (ty:="tuple") (λ_=>rfl) (by decide) (qGf ha lA 3) (K:=K.map N) hb lk⟩
 ·exact⟨_,p9 hs (ty:="tuple") (λ_=>rfl) (by decide) (qGT hb lk 2) ha lA⟩
 ·exact⟨_,qCn (by simp) (qB9 zs za zk)⟩
 ·exact⟨_,l8 (by simp) (by simp) (qGg zs za)⟩
 ·exact⟨_,l8 (by simp) (by simp) (mem4 zs za zk ((qDw (x:=0) (by decide) 4).mono (by decide)))⟩
 ·exact⟨_,qBz⟩
 ·exact⟨_,j9 hs (ty:="NoneType") (λ_=>rfl) (by decide) zn (K:=K.map N) hb lk⟩
 ·exact⟨_,p9 hs (ty:="NoneType") (λ_=>rfl) (by decide) zn ha lA⟩
theorem qDn(hk:1<=k)(h:Pz s A K){w at_ p:Nat}(g:qAN M n){x1:T}:
  ∃t f b M',pxs (glT gs) (Pk (glT gs) Tb.fns Cs k) [] (.cons R0 (.cons R1 (.cons R2 .nil))) (Qn (.cell n) x1 s A K w at_ p none none) M=.ok (.rt (t,f),M')/\Kept n M M'/\Th t b:=by
 have p5:=h.p5;have la:=h.len;obtain⟨z,M2,e2,hz,k2⟩:=out (k:=k) hk g (m:=10) (by omega);have hz':z<(ten s A K).length:=hz;obtain⟨b,th⟩:=qCV h _ (wn hz');have ix:∀{M:Mem},QH M (.lst (ten s A K)) (N z)=some ((ten s A K)[z],((ten s A K)[z]).lf):=λ{M}=>by
  rw[zi,wE hz'];rfl
 have a1:∀{M:Mem},qc M .add (FL A) (.lst [N 0])=some (FL (A++[.int 0]),true):=λ{M}=>qDz (X:=A) (Y:=[.int 0]) (by simp;omega);have sm:∀lo hi,Y1 (FL A) (A.map T.v) lo hi=some (lT (ji (A.map T.v) lo hi)):=λlo hi=>rfl;have its:∀{M:Mem},(FL A).its M=some (A.map T.v):=λ{M}=>rfl;have cd:ji (A.map T.v) (some 1) none=(A.drop 1).map T.v:=JR (m:=1);have lt1:lT ((A.drop 1).map T.v)=(FL (A.drop 1),true):=by unfold lT;rw[T7]
 have tA:∀{M:Mem},zb M .tuple [FL A]=some (FT A,true):=λ{M}=>by
  show some (T.tup (A.map T.v),T.lfs (A.map T.v))=_;rw[T7]
 have tK:∀{M:Mem},zb M .tuple [NL K]=some (.tup (K.map N),true):=λ{M}=>by
  show some (T.tup (K.map N),T.lfs (K.map N))=_;rw[W1]
 have lfK:(NL K).lf=false:=jQ K;have lfA:(FL A).lf=false:=rfl
 let t3:List T:=[.tup [N s,FL (A++[.int 0]),NL K],.tup [N s,FL (A.drop 1),NL K],.tup [N s,FT A,NL K]]
 let t5:List T:=[.tup [N s,FL A,.tup (K.map N)],.lst [N s,FL A,NL K],.tup [N s,FL A],.tup [N s,FL A,NL K,N 0],.v .non]
 let t2:List T:=[.tup [N s,.v .non,NL K],.tup [N s,FL A,.v .non]]
 have q1:∀{M:Mem},qc M .add (.lst t3) (.lst t5)=some (lT (t3++t5)):=λ{M}=>QT (by show 3+5<=lim;decide);have q2:∀{M:Mem},qc M .add (.lst (t3++t5)) (.lst t2)=some (lT (ten s A K)):=λ{M}=>QT (by show 8+2<=lim;decide);have s0:∀o,px (glT gs) (Pk (glT gs) Tb.fns Cs k) [] R0 (Qn (.cell n) x1 s A K w at_ p none o) M=.ok (.nx (Qn (.cell n) x1 s A K w at_ p none (some (.lst t3))),M):=λo=>by
  have t3e:t3=[.tup [N s,FL (A++[.int 0]),NL K],.tup [N s,FL (A.drop 1),NL K],.tup [N s,FT A,NL K]]:=rfl;rw[t3e];unfold R0 Qn;have im:qX [N 1]=some [1]:=rfl;generalize FL (A.drop 1)=v1 at *;generalize FL (A++[.int 0])=v2 at *;generalize NL K=vK at *;generalize (A.drop 1).map T.v=m1 at *;generalize A.map T.v=mA at *;simp[lim,a1,sm,its,im,cd,lt1,tA,lfK,lfA]
 have s1:px (glT gs) (Pk (glT gs) Tb.fns Cs k) [] R1 (Qn (.cell n) x1 s A K w at_ p none (some (.lst t3))) M=.ok (.nx (Qn (.cell n) x1 s A K w at_ p none (some (.lst (t3++t5)))),M):=by
  have t5e:t5=[.tup [N s,FL A,.tup (K.map N)],.lst [N s,FL A,NL K],.tup [N s,FL A],.tup [N s,FL A,NL K,N 0],.v .non]:=rfl;have lt:lT (t3++t5)=(.lst (t3++t5),T.lfs (t3++t5)):=rfl;unfold R1 Qn;generalize t3++t5=t8 at *;rw[t5e]at q1;generalize t3=u3 at *;generalize NL K=vK at *;generalize T.tup (K.map N)=vT at *;generalize FL A=vA at *;simp[lim,tK,q1,lt,lfK,lfA]
 have s2:px (glT gs) (Pk (glT gs) Tb.fns Cs k) [] R2 (Qn (.cell n) x1 s A K w at_ p none (some (.lst (t3++t5)))) M=.ok (.rt ((ten s A K)[z],((ten s A K)[z]).lf),M2):=by
  have t2e:t2=[.tup [N s,.v .non,NL K],.tup [N s,FL A,.v .non]]:=rfl;have lt:lT (ten s A K)=(.lst (ten s A K),T.lfs (ten s A K)):=rfl;unfold R2 Qn;rw[t2e]at q2;generalize t3++t5=t8 at *;generalize (ten s A K)[z]=tz at *;generalize ten s A K=T10 at *;generalize NL K=vK at *;generalize FL A=vA at *;simp[-zi,lim,q2,lt,e2,ix,lfK,lfA]
 exact⟨_,_,b,M2,by rw[ZX,s0,tD];dsimp only;rw[ZX,s1,tD];dsimp only;rw[ZX,s2,tD],k2,th⟩
end
end _M
namespace _M
open PySem PySem.Spec _P
open _L (V)
theorem qCo:b14=(.cons (.asg (.tup [2,3,4]) (.var 1)) (.cons (.asg (.name 5) (.blt .len (.cons (.var 3) .nil))) (.cons (.asg (.name 6) (.call 10 (.cons (.var 0) (.cons (nE 30) .nil)))) (.cons (.asg (.name 7) (.call 10 (.cons (.var 0) (.cons (.var 5) .nil)))) (.cons (.asg (.name 8) (.call 10 (.cons (.var 0) (.cons (.bin .add (.blt .len (.cons (.var 4) .nil)) (nE 1)) .nil)))) (.cons S7 (.cons S16 (.cons S22 (.cons R0 (.cons R1 (.cons R2 .nil))))))))))):=rfl
theorem ps3(a b c:T)(σ:TS):zV (.tup [2,3,4]) (.tup [a,b,c]) σ=some (((σ.set 2 (some a)).set 3 (some b)).set 4 (some c)):=rfl
section
variable{k s n:Nat}{A:List V}{K:List Nat}{M:Mem}
theorem qF0(hk:3<=k)(h:Pz s A K)(g:qAN M n):∃t f b M',Pk (glT gs) Tb.fns Cs k 14 [.cell n,.tup [N s,FL A,NL K]] M=.ok ((t,f),M')/\Kept n M M'/\Th t b:=by
 have p5:=h.p5;have pp:0<2 ^ s:=Nat.two_pow_pos _;have lK:=h.lK;obtain⟨w,M1,e1,hw,k1⟩:=out (k:=k-1) (by omega) g (m:=30) (by omega);obtain⟨at_,M2,e2,hat,k2⟩:=out (k:=k-1) (by omega) k1.good (m:=2 ^ s) (by omega);obtain⟨p,M3,e3,hp,k3⟩:=out (k:=k-1) (by omega) k2.good (m:=K.length+1) (by omega);have kk:Kept n M M3:=(k1.trans k2).trans k3;have lA:∀{M:Mem},zb M .len [FL A]=some (N (2 ^ s),true):=λ{M}=>by rw[QF,wG,h.len]
 have lk:∀{M:Mem},zb M .len [NL K]=some (N K.length,true):=λ{M}=>by show zb M .len [.lst (K.map N)]=_;rw[QF,wG]
 have ad:∀{M:Mem},qc M .add (N K.length) (N 1)=some (N (K.length+1),true):=λ{M}=>jY _ _;have lfK:(NL K).lf=false:=jQ K
 let x1:T:=.tup [N s,FL A,NL K]
 have Jm:∀r,pxs (glT gs) (Pk (glT gs) Tb.fns Cs (k-1)) [] (.cons (.asg (.tup [2,3,4]) (.var 1)) (.cons (.asg (.name 5) (.blt .len (.cons (.var 3) .nil))) (.cons (.asg (.name 6) (.call 10 (.cons (.var 0) (.cons (nE 30) .nil)))) (.cons (.asg (.name 7) (.call 10 (.cons (.var 0) (.cons (.var 5) .nil)))) (.cons (.asg (.name 8) (.call 10 (.cons (.var 0) (.cons (.bin .add (.blt .len (.cons (.var 4) .nil)) (nE 1)) .nil)))) r))))) (List.map some [T.cell n,.tup [N s,FL A,NL K]]++List.replicate (11-2) none) M=pxs (glT gs) (Pk (glT gs) Tb.fns Cs (k-1)) [] r (Qn (.cell n) x1 s A K w at_ p none none) M3:=λr=>by
  have x1e:x1=.tup [N s,FL A,NL K]:=rfl;unfold Qn;rw[x1e];generalize NL K=tK at *;generalize N K.length=nk at *;generalize N (2 ^ s)=p2 at *;generalize N (K.length+1)=nk1 at *;generalize FL A=tA at *;simp[ps3,e1,e2,e3,lA,lk,ad,List.replicate]
 have skip:∀m t r,m<=w->pxs (glT gs) (Pk (glT gs) Tb.fns Cs (k-1)) [] (.cons (.ifs (.cmp .lt (.var 6) (nE m)) t .nil) r) (Qn (.cell n) x1 s A K w at_ p none none) M3=pxs (glT gs) (Pk (glT gs) Tb.fns Cs (k-1)) [] r (Qn (.cell n) x1 s A K w at_ p none none) M3:=λm t r h=>by
  have:¬ w<m:=by omega
  simp[this]
 have fin:∀{t f b M'}{B:Ss},pxs (glT gs) (Pk (glT gs) Tb.fns Cs (k-1)) [] B (Qn (.cell n) x1 s A K w at_ p none none) M3=.ok (.rt (t,f),M')->Kept n M3 M'->Th t b ->
   ∃t f b M',V7 M.length (pxs (glT gs) (Pk (glT gs) Tb.fns Cs (k-1)) [] B (Qn (.cell n) x1 s A K w at_ p none none) M3)=.ok ((t,f),M')/\Kept n M M'/\Th t b:=λ{t f b M' B} e q th=>
  ⟨t,f,b,M',by rw[e,qA (by rw[q.len,kk.len])],kk.trans q,th⟩
 rw[qT t14 ⟨rfl,by decide⟩ (by omega),qCo,show Cs.getD 14 []=[] from rfl,Jm];by_cases h7:w<7
 ·obtain⟨t,b,e,th⟩:=qEF (k:=k-1) (M:=M3) h h7 hat (p:=p) (x0:=.cell n) (x1:=x1) (r:=(.cons S16 (.cons S22 (.cons R0 (.cons R1 (.cons R2 .nil))))));exact fin e (Kept.refl kk.good) th
 ·rw[show (.cons S7 (.cons S16 (.cons S22 (.cons R0 (.cons R1 (.cons R2 .nil))))):Ss)=.cons (.ifs (.cmp .lt (.var 6) (nE 7)) _ .nil) (.cons S16 (.cons S22 (.cons R0 (.cons R1 (.cons R2 .nil))))) from rfl,skip 7 _ _ (by omega)];by_cases h16:w<16
  ·obtain⟨t,f,b,e,th⟩:=qBr (k:=k-1) (M:=M3) h (w:=w) (by omega) hat (p:=p) (by omega) (x0:=.cell n) (x1:=x1) (r:=(.cons S22 (.cons R0 (.cons R1 (.cons R2 .nil)))));exact fin e (Kept.refl kk.good) th
  ·rw[show (.cons S16 (.cons S22 (.cons R0 (.cons R1 (.cons R2 .nil)))):Ss)=.cons (.ifs (.cmp .lt (.var 6) (nE 16)) _ .nil) (.cons S22 (.cons R0 (.cons R1 (.cons R2 .nil)))) from rfl,skip 16 _ _ (by omega)];by_cases h22:w<22
   ·obtain⟨t,f,b,e,th⟩:=qCG (k:=k-1) (M:=M3) h (w:=w) (by omega) (at_:=at_) (p:=p) (x0:=.cell n) (x1:=x1) (r:=(.cons R0 (.cons R1 (.cons R2 .nil))));exact fin e (Kept.refl kk.good) th
   ·rw[show (.cons S22 (.cons R0 (.cons R1 (.cons R2 .nil))):Ss)=.cons (.ifs (.cmp .lt (.var 6) (nE 22)) _ .nil) (.cons R0 (.cons R1 (.cons R2 .nil))) from rfl,skip 22 _ _ (by omega)];obtain⟨t,f,b,M',e,q,th⟩:=qDn (k:=k-1) (by omega) h (w:=w) (at_:=at_) (p:=p) kk.good (x1:=x1);exact fin e q th
theorem qDZ{M:Mem}(x:Str):qu M .ne (.v (.str x)) (.v (.str x))=some false:=by
 show (some (x==x):Option Bool).map (!·)=_;rw[vp];rfl
theorem qEa{M:Mem}(x:Bool):qu M .ne (.v (.bl x)) (.v (.bl x))=some false:=by rw[qEE];simp
theorem qCu(hk:5<=k){a0 a1 a2 a3 a4:Option T}:∀(xs:List T) (M:Mem) (o5 o6 o7:Option T),(∀t∈xs,∃b,Th t b)->∃p5 p6 p7,jC [] (.name 5) (pxs (glT gs) (Pk (glT gs) Tb.fns Cs k) [2] S8) xs [a0,a1,a2,a3,a4,o5,o6,o7] M=.ok (.nx [a0,a1,a2,a3,a4,p5,p6,p7],M)
 | [],M,o5,o6,o7,h=>⟨o5,o6,o7,rfl⟩
 |t::xs,M,o5,o6,o7,h=>by
  obtain⟨b,h7,h12,x,hx⟩:=h t (by simp);obtain⟨p5,p6,p7,e⟩:=qCu hk (a0:=a0) (a1:=a1) (a2:=a2) (a3:=a3) (a4:=a4) xs M (some t) (some (.v (.str x))) (some (.v (.bl b))) (λy hy=>h y (by simp[hy]));refine⟨p5,p6,p7,?_⟩;have body:pxs (glT gs) (Pk (glT gs) Tb.fns Cs k) [2] S8 [a0,a1,a2,a3,a4,some t,o6,o7] M=.ok (.nx [a0,a1,a2,a3,a4,some t,some (.v (.str x)),some (.v (.bl b))],M):=by
   rw[S8];simp[hx,h7 k hk,h12 k hk,bT,qW,qEa,qDZ]
  rw[qe];show PR.bind (pxs (glT gs) (Pk (glT gs) Tb.fns Cs k) [2] S8 [a0,a1,a2,a3,a4,some t,o6,o7] M) _=_;rw[body,tD];exact e
theorem qAl(hk:5<=k)(ns:List Int){i:Nat}(hi:i<=62){M:Mem}{o2 o3 o4 o5 o6 o7:Option T}:∃p2 p3 p4 p5 p6 p7 M',pxs (glT gs) (Pk (glT gs) Tb.fns Cs k) [2] Z9 [some (.fz (ns.map λn=>.v (.int n))),some (N i),o2,o3,o4,o5,o6,o7] M=.ok (.nx [some (.fz (ns.map λn=>.v (.int n))),some (N i),p2,p3,p4,p5,p6,p7],M'):=by
 obtain⟨g,s,e1,hb⟩:=bag (k:=k) (by omega) ns (kk:=i) (by omega) M;have g0:qAN (M++[stT g s]) M.length:=⟨g,s,by simp,hb⟩
 obtain⟨sz,F,G,f,M1,e2,k1,c1⟩:=qEB (k:=k) (by omega) g0;have th:=qAu c1;have p5:2 ^ sz<=32:=vP (n:=2) (by decide) c1.s5;have lG:=A3 c1.ris;obtain⟨t,f2,b,M2,e3,k2,th2⟩:=qF0 (k:=k) (by omega) (s:=sz) (A:=iv F) (K:=G) ⟨c1.s1,c1.s5,by rw[wG,c1.len],qCk λx hx=>by have:=c1.a7 x hx;omega,A0 c1.ris,by omega⟩ k1.good;rw[<-qC3]at e3;obtain⟨p5',p6,p7,e4⟩:=qCu hk (a0:=some (.fz (ns.map λn=>.v (.int n)))) (a1:=some (N i)) (a2:=some (.cell M.length)) (a3:=some (.tup [N sz,NL F,NL G])) (a4:=some t) [.tup [N sz,NL F,NL G],t,.tup [N sz,NL F,NL G]] M2 o5 o6 o7 (λx hx=>by
  simp only[wI,wT,or_false]at hx;rcases hx with rfl|rfl|rfl
  ·exact⟨_,th⟩
  ·exact⟨_,th2⟩
  ·exact⟨_,th⟩)
 refine⟨some (.cell M.length),some (.tup [N sz,NL F,NL G]),some t,p5',p6,p7,M2,?_⟩;have th3:thaw M.length (.lst (stT g s))=(.cell M.length,[stT g s]):=rfl;have l13:=λM=>th.2.1 k hk M;have lft:(T.tup [N sz,NL F,NL G]).lf=false:=by simp[T.lf,T.lfs,jQ,N]
 rw[Z9];generalize T.tup [N sz,NL F,NL G]=tp at *;simp[e1,th3,e2,e3,e4,l13,lim,-qe]
theorem qFZ(hk:5<=k)(ns:List Int):∀(m i:Nat) (M:Mem) (o1 o2 o3 o4 o5 o6 o7:Option T),i+m<=63->∃σ' M',jC [] (.name 1) (pxs (glT gs) (Pk (glT gs) Tb.fns Cs k) [2] Z9) ((List.range' i m).map N) [some (.fz (ns.map λn=>.v (.int n))),o1,o2,o3,o4,o5,o6,o7] M=.ok (.nx σ',M')
 | 0,i,M,o1,o2,o3,o4,o5,o6,o7,h=>⟨_,M,rfl⟩
 |m+1,i,M,o1,o2,o3,o4,o5,o6,o7,h=>by
  obtain⟨p2,p3,p4,p5,p6,p7,M1,e⟩:=qAl hk ns (i:=i) (by omega) (M:=M) (o2:=o2) (o3:=o3) (o4:=o4) (o5:=o5) (o6:=o6) (o7:=o7);obtain⟨σ',M',e'⟩:=qFZ hk ns m (i+1) M1 (some (N i)) p2 p3 p4 p5 p6 p7 (by omega);refine⟨σ',M',?_⟩;rw[List.range'_succ,List.map_cons,qe,st1,e,tD];exact e'
end
theorem main:∀ns:List Int,ns.length<=63->∃h',Fk Tb.fns 30 15 [.ref gs.length] (Jg gs ns)=.ok (.bl true,h'):=by
 intro ns hn;obtain⟨σ',M',e⟩:=qFZ (k:=29) (by omega) ns (max 1 (min ns.length 40)) 0 [] none none none none none none none (by omega);rw[<-List.range_eq_range']at e;have key:∃b M2,Pk (glT gs) Tb.fns Cs 30 15 [.fz (ns.map λn=>.v (.int n))] []=.ok ((.v (.bl true),b),M2):=by
  rw[qT t15 ⟨rfl,by decide⟩ (by omega),show Cs.getD 15 []=[2] from rfl];have ex:pxs (glT gs) (Pk (glT gs) Tb.fns Cs (30-1)) [2] b15 ([T.fz (ns.map λn=>.v (.int n))].map some++List.replicate (8-1) none) []=.ok (.rt (bT true),M'):=by
   rw[b15];simp(disch:=omega) [E8,e]
  rw[ex];exact P5 _ _ _
 obtain⟨b,M2,e2⟩:=key;exact qCz rfl e2
end _M
namespace PySem.W.Fast
theorem tw8221339440754911466:True:=trivial
theorem tw121614113166070192:True:=trivial
theorem tw18016684951321045682:True:=trivial
theorem tw2468103847355156914:True:=trivial
theorem tw12282597689989045385:True:=trivial
theorem tw6684763848017433126:True:=trivial
theorem tw14963230118437422334:True:=trivial
theorem tw2180065391723702487:True:=trivial
theorem tw4780864953809472012:True:=trivial
theorem tw10049540723184515771:True:=trivial
theorem tw11905724527861514817:True:=trivial
theorem tw1827072807702972883:True:=trivial
theorem tw6031939817078092335:True:=trivial
theorem tw592349802749952633:True:=trivial
theorem tw9256294053603709591:True:=trivial
theorem tw3904376523255224340:True:=trivial
theorem tw16782069886836582283:True:=trivial
theorem tw9227973581919521248:True:=trivial
theorem tw5322005490866889074:True:=trivial
theorem tw17707423005949364561:True:=trivial
theorem tw11128643705306601372:True:=trivial
theorem tw1645289124620671024:True:=trivial
theorem tw12171206618933686367:True:=trivial
theorem tw15969752754222199849:True:=trivial
theorem tw6058208465589980706:True:=trivial
theorem tw237446740756426514:True:=trivial
theorem tw5689407777246112666:True:=trivial
theorem tw5667028971893335669:True:=trivial
theorem tw14854405586971013340:True:=trivial
theorem tw10646123165257740599:True:=trivial
theorem tw11381236212626200810:True:=trivial
theorem tw17611149850528777589:True:=trivial
theorem tw8797161807828075647:True:=trivial
theorem tw15546568202729009873:True:=trivial
theorem tw8194017298589893426:True:=trivial
theorem tw3931108614309142860:True:=trivial
theorem tw6962667080867474570:True:=trivial
theorem tw1563773230138688466:True:=trivial
theorem tw12004705469856011150:True:=trivial
theorem tw16056101474879462826:True:=trivial
theorem tw6768143843527901764:True:=trivial
theorem tw12713724326384447071:True:=trivial
theorem tw16614878127788786995:True:=trivial
theorem tw2075880802871385969:True:=trivial
theorem tw11632344036815111759:True:=trivial
theorem tw11342647426180036034:True:=trivial
theorem tw2887830466370756785:True:=trivial
theorem tw3341719019301369175:True:=trivial
theorem tw16130919734905185272:True:=trivial
theorem tw16742281188685641859:True:=trivial
theorem tw13647037271037196799:True:=trivial
theorem tw12556672617020327323:True:=trivial
theorem tw16437017903835606015:True:=trivial
theorem tw14843773317318973754:True:=trivial
theorem tw4863992539254778835:True:=trivial
theorem tw9278143293549814575:True:=trivial
theorem tw12835214935022241767:True:=trivial
theorem tw13578774411017015885:True:=trivial
theorem tw2513976786123744885:True:=trivial
theorem tw8001752143308779706:True:=trivial
theorem tw2061759767473077924:True:=trivial
theorem tw11889696439339119799:True:=trivial
theorem tw4430756908422645132:True:=trivial
theorem tw3260636735754449043:True:=trivial
theorem tw4580097569692972715:True:=trivial
theorem tw433085403008686530:True:=trivial
theorem tw12068183887726719502:True:=trivial
theorem tw2649672930459282281:True:=trivial
theorem tw7060757334580966503:True:=trivial
theorem tw18383376203877742307:True:=trivial
theorem tw8954230653995019879:True:=trivial
theorem tw13494551390187206871:True:=trivial
theorem tw2615168284016042397:True:=trivial
theorem tw16638604889354463862:True:=trivial
theorem tw2302181962665131382:True:=trivial
theorem tw10374652499691195603:True:=trivial
theorem tw17084799452052065266:True:=trivial
theorem tw13346243047169641767:True:=trivial
theorem tw15744871696825348554:True:=trivial
theorem tw9492338459343103701:True:=trivial
theorem tw5990682348684811354:True:=trivial
theorem tw18208274358652425322:True:=trivial
theorem tw2447469056159464304:True:=trivial
theorem tw9467432282681394053:True:=trivial
theorem tw8168627223513516194:True:=trivial
theorem tw17337730152485074623:True:=trivial
theorem tw5031546719299452876:True:=trivial
theorem tw10241089775857705996:True:=trivial
theorem tw2265740726630422769:True:=trivial
theorem tw9972929918931037903:True:=trivial
theorem tw5727496992342951760:True:=trivial
theorem tw800478438149853927:True:=trivial
theorem tw13330998777394992696:True:=trivial
theorem tw9260914114143434608:True:=trivial
theorem tw13348619159112826795:True:=trivial
theorem tw12017086163447256897:True:=trivial
theorem tw4191798454775563727:True:=trivial
theorem tw14188865072289508058:True:=trivial
theorem tw12252340363779533226:True:=trivial
theorem tw296961532772030346:True:=trivial
theorem tw3014309773013579223:True:=trivial
theorem tw17757736245443367887:True:=trivial
end PySem.W.Fast
namespace _M
open PySem PySem.Spec PyProof.Rows _L _P
theorem dk1{d:K4}(h:d.ps.length=1)(sc:zN d.N d.ps (defScope d.st))(b:∀(kV doc pm:Value) (an:Option Addr) (cdv ct:Value),∀u0:Value,bindArgs (PySem.W.fnOf d.x d.x (zX d.st) (defBody d.st) (defScope d.st) .none kV doc pm an cdv ct) ⟨[u0],[]⟩=pure (d.ps.zip [u0])):qBW d:=⟨sc,λ_ _ _ _ _ _ us hl=>by
 rw[h]at hl;obtain⟨_,rfl⟩:=_P.len1 hl;exact b _ _ _ _ _ _ _⟩
theorem dk2{d:K4}(h:d.ps.length=2)(sc:zN d.N d.ps (defScope d.st))(b:∀(kV doc pm:Value) (an:Option Addr) (cdv ct:Value),∀u0 u1:Value,bindArgs (PySem.W.fnOf d.x d.x (zX d.st) (defBody d.st) (defScope d.st) .none kV doc pm an cdv ct) ⟨[u0,u1],[]⟩=pure (d.ps.zip [u0,u1])):qBW d:=⟨sc,λ_ _ _ _ _ _ us hl=>by
 rw[h]at hl;obtain⟨_,_,rfl⟩:=_P.len2 hl;exact b _ _ _ _ _ _ _ _⟩
theorem dk3{d:K4}(h:d.ps.length=3)(sc:zN d.N d.ps (defScope d.st))(b:∀(kV doc pm:Value) (an:Option Addr) (cdv ct:Value),∀u0 u1 u2:Value,bindArgs (PySem.W.fnOf d.x d.x (zX d.st) (defBody d.st) (defScope d.st) .none kV doc pm an cdv ct) ⟨[u0,u1,u2],[]⟩=pure (d.ps.zip [u0,u1,u2])):qBW d:=⟨sc,λ_ _ _ _ _ _ us hl=>by
 rw[h]at hl;obtain⟨_,_,_,rfl⟩:=_P.len3 hl;exact b _ _ _ _ _ _ _ _ _⟩
theorem dks:∀d∈Tb.ds,qBW d:=by
 unfold Tb;dsimp only
 repeat' (refine wY.2 ⟨?_,?_⟩;first|exact dk1 rfl ⟨rfl,rfl,rfl,by decide +kernel,rfl,by decide +kernel,by decide +kernel⟩ λ_ _ _ _ _ _ _=>rfl|exact dk2 rfl ⟨rfl,rfl,rfl,by decide +kernel,rfl,by decide +kernel,by decide +kernel⟩ λ_ _ _ _ _ _ _ _=>rfl|exact dk3 rfl ⟨rfl,rfl,rfl,by decide +kernel,rfl,by decide +kernel,by decide +kernel⟩ λ_ _ _ _ _ _ _ _ _=>rfl)
 exact λ_ h=>nomatch h
theorem all_mk{l:PySem.W.OpenLaw}{w:World}{K:PySem.W.Frag}{h:Heap}{mg:Str->Option Value}{fa:Addr}(X:K.In h)(G:h.Ns mainGlobals mg)(hfa:mg "law"=some (.ref fa))
  (hds:∀d∈Tb.ds,qBn K d)
  {ga0:Addr}{gn0:Nat}{gsl0:Array (Option Value)}{u0_0 u0_1 u0_2 u0_3 u0_4 u0_5:Tok}(g_LENGTHS:PySem.W.nsIn K mainGlobals "LENGTHS"=some (some (.ref ga0))) (m0:K.lookup ga0=some ⟨.type "tuple",none,.seq #[.int 1 u0_0,.int 2 u0_1,.int 4 u0_2,.int 8 u0_3,.int 16 u0_4,.int 32 u0_5] gn0,gsl0⟩)
  {tg_GREATEST_SIZE:Tok}(g_GREATEST_SIZE:PySem.W.nsIn K mainGlobals "GREATEST_SIZE"=some (some (.int 5 tg_GREATEST_SIZE)))
  {tg_MOST_SENDINGS:Tok}(g_MOST_SENDINGS:PySem.W.nsIn K mainGlobals "MOST_SENDINGS"=some (some (.int 6 tg_MOST_SENDINGS)))
  (z_len:PySem.W.nsIn K mainGlobals "len"=some none)
  (z_all:PySem.W.nsIn K mainGlobals "all"=some none)
  (z_max:PySem.W.nsIn K mainGlobals "max"=some none)
  (z_min:PySem.W.nsIn K mainGlobals "min"=some none)
  (z_list:PySem.W.nsIn K mainGlobals "list"=some none)
  (z_int:PySem.W.nsIn K mainGlobals "int"=some none)
  (z_tuple:PySem.W.nsIn K mainGlobals "tuple"=some none)
  (z_range:PySem.W.nsIn K mainGlobals "range"=some none)
  (z_isinstance:PySem.W.nsIn K mainGlobals "isinstance"=some none)
  (z_bool:PySem.W.nsIn K mainGlobals "bool"=some none)
  (z_sorted:PySem.W.nsIn K mainGlobals "sorted"=some none)
  (z_repr:PySem.W.nsIn K mainGlobals "repr"=some none)
  (z_set:PySem.W.nsIn K mainGlobals "set"=some none)
  (main:∀ns:List Int,ns.length<=63->∃h',Fk Tb.fns 30 15 [.ref gs.length] (Jg gs ns)=.ok (.bl true,h')):
  ∃fd:FuncData,(∀(s:Shared) (v:Value),BindsTo s fd ⟨[v],[]⟩ [("_law_script",v)])/\∀base:Heap,K.In base->base.Ns mainGlobals mg->FnOk l.prog w K mg base CX0 60 fa fd ["_law_script"] (d7 K):=by
 obtain⟨fas,fds,hT⟩:=v7 X G Tb.ds hds dks;have O:j8 K mg [ga0] Tb fas fds:=by
  refine⟨hT,λx e hx=>?_,λx hx=>?_,λa ha=>(wI.mp ha).elim (λz=>by subst z;exact⟨_,m0,rfl,rfl⟩) λha=>nomatch ha⟩
  ·have hx2:List.lookup x ([("LENGTHS",E.glob 0),("GREATEST_SIZE",E.cst (.int 5)),("MOST_SENDINGS",E.cst (.int 6))]:List (Str×E))=some e:=hx;simp only[List.lookup_cons,List.lookup_nil]at hx2;split at hx2
   ·rename_i hq;have hq2:x="LENGTHS":=by simpa using hq
    subst hq2;cases hx2;exact .inr ⟨_,_,rfl,PySem.W.mg_of X G g_LENGTHS,rfl⟩
   split at hx2
   ·rename_i hq;have hq2:x="GREATEST_SIZE":=by simpa using hq
    subst hq2;cases hx2;exact .inl ⟨_,_,rfl,PySem.W.mg_of X G g_GREATEST_SIZE,⟨_,rfl⟩,λ_=>rfl⟩
   split at hx2
   ·rename_i hq;have hq2:x="MOST_SENDINGS":=by simpa using hq
    subst hq2;cases hx2;exact .inl ⟨_,_,rfl,PySem.W.mg_of X G g_MOST_SENDINGS,⟨_,rfl⟩,λ_=>rfl⟩
   cases hx2
  ·have hx2:x∈(["len","all","max","min","list","int","tuple","range","isinstance","bool","sorted","repr","set"]:List Str):=List.contains_iff_mem.mp hx;simp only[wI,wT,or_false]at hx2;rcases hx2 with rfl|rfl|rfl|rfl|rfl|rfl|rfl|rfl|rfl|rfl|rfl|rfl|rfl
   ·exact PySem.W.mg_none_of X G z_len
   ·exact PySem.W.mg_none_of X G z_all
   ·exact PySem.W.mg_none_of X G z_max
   ·exact PySem.W.mg_none_of X G z_min
   ·exact PySem.W.mg_none_of X G z_list
   ·exact PySem.W.mg_none_of X G z_int
   ·exact PySem.W.mg_none_of X G z_tuple
   ·exact PySem.W.mg_none_of X G z_range
   ·exact PySem.W.mg_none_of X G z_isinstance
   ·exact PySem.W.mg_none_of X G z_bool
   ·exact PySem.W.mg_none_of X G z_sorted
   ·exact PySem.W.mg_none_of X G z_repr
   ·exact PySem.W.mg_none_of X G z_set
 have hG:D0 K [ga0] gs:=⟨⟨.inr ⟨_,_,_,m0,rfl,rfl,by show 6<=sizeLine;decide,.cons ⟨_,rfl⟩ (.cons ⟨_,rfl⟩ (.cons ⟨_,rfl⟩ (.cons ⟨_,rfl⟩ (.cons ⟨_,rfl⟩ (.cons ⟨_,rfl⟩ (.nil))))))⟩,rfl⟩,True.intro⟩
 obtain⟨a,f,e1,e2,F,_,em,_⟩:=hT 15 _ rfl;have e:=hfa.symm.trans em;cases e;exact⟨f,qDk F (dks _ (wW (i:=15) rfl)) rfl,λbase _ _=>Q5 O hG (i:=15) rfl e1 e2 rfl main⟩
theorem walk{l:PySem.W.OpenLaw}{q:Program}{loose:List Str}{XP:(Str->Option Value)->Heap->Prop}{YP:World->Heap->Prop}{d:DefRec}{K:Params->PySem.W.Frag}(hn:l.most=some 63)(hdf:d.params.defaults=[])
  (hY:∀(w:World) (h:Heap),YP w h->(K w.params).In h)
  (F:∀(w:World) (mg:Str->Option Value) (fa:Addr) (h:Heap),(K w.params).In h->h.Ns mainGlobals mg->mg d.name=some (.ref fa) ->
   ∃fd:FuncData,(∀(s:Shared) (u:Value),BindsTo s fd ⟨[u],[]⟩ [("_law_script",u)])/\∀base:Heap,(K w.params).In base->base.Ns mainGlobals mg->FnOk l.prog w (K w.params) mg base CX0 60 fa fd ["_law_script"] (d7 (K w.params))):
  PySem.W.WalkO q loose XP YP l.row.toRowW d [] (λf vs=>PySem.call f vs):=
 _L.walk_of (n:=63) (k:=60) (x:="_law_script") (CX:=λ_=>CX0) (sp:=λw=>d7 (K w.params)) hn (by decide) hdf ⟨rfl,by decide,by decide,rfl⟩ hY F (λ_ _ a ns hl hO hS=>⟨a,ns,rfl,hO,hS,hl,λ_=>rfl⟩) λ_ _ _ _ _ z=>z
end _M
open PySem PySem.W PyProof.Rows
set_option maxRecDepth 100000 in
set_option maxHeartbeats 0 in
theorem PySem.Challenge.cw_healhalves_k70_what_is_a_plan_holds : PySem.Challenge.rw_healhalves_k70_what_is_a_plan.Holds := by
 w_on;o_law;k_head;(case hw=>w_witness2)
 k_fill
 refine _M.walk (l:=PySem.Challenge.rw_healhalves_k70_what_is_a_plan) rfl rfl (λw h Y=>PySem.W.kIn_of Y) ?F
 case F=>
  intro w mg fa h KX G hmg
  refine' _M.all_mk KX G hmg ?ds ?g_LENGTHS ?m0 ?g_GREATEST_SIZE ?g_MOST_SENDINGS ?z_len ?z_all ?z_max ?z_min ?z_list ?z_int ?z_tuple ?z_range ?z_isinstance ?z_bool ?z_sorted ?z_repr ?z_set _M.main
  case ds=>
   unfold _M.Tb;dsimp only
   repeat' (refine wY.2 ⟨⟨_,_,_,_,_,_,_,_,_,_,by k_is,by k_is,by k_is,by k_is⟩,?_⟩)
   exact λ_ h=>nomatch h
  all_goals (try k_is)
