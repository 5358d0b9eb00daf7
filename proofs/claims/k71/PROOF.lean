import PyProof.Rows.All
import Wide.All
import OpenK.AllK
import Wide.FinOn
import Lean
import PyProof.EqAt
import PyProof.EqKinds
import PyProof.TupleCall
import PyProof.NeKinds
import PyProof.ZipIter
import PyProof.ReprRoads
import Wide.Words
import KE.KIntText
import PyProof.StrWalks
import PyProof.StrLawsJoin
import KE.KSortKey
import PyProof.Rows.MinMaxN
import KE.KDictOf
import KE.KItemsList
import PyProof.AttrMissHeap
import KE.KRevIter
import PyProof.EnumMake
import PyProof.EnumFor
import PyProof.WalksEnum
import PyProof.Rows.EnumRows
import PyProof.FactsAll.range_2
import PyProof.AutoRange
import KE.KTryMore
import PyProof.ExcArgsOwn
import OpenK.KOwn
import PyProof.NsDelKeeps
import PySem.Challenge.RW_healhalves_k71_sent_and_come
def wA:=@List.getElem?_eq_getElem
def wB:=@List.size_toArray
def wC:=@Nat.lt_of_lt_of_le
def wD:=@List.mem_append
def wE:=@List.mem_append_left
def wF:=@List.all_eq_true
def wG:=@List.getD_eq_getElem?_getD
def wH:=@List.mem_append_right
def wI:=@List.getElem?_set_ne
def wJ:=@Nat.ne_of_lt
def wK:=@List.getElem?_map
def wL:=@List.length_map
def wM:=@List.append_assoc
def wN:=@List.getElem?_set_self
def wO:=@List.not_mem_nil
def wP:=@List.getElem?_take_of_lt
def wQ:=@List.forall_mem_cons
def wR:=@List.filterMap_cons
def wS:=@List.set_append_right
def wT:=@Bool.false_ne_true
def wU:=@List.length_take
def wV:=@List.eraseIdx_eq_take_drop_succ
def wW:=@List.getElem?_eq_none
def wX:=@Nat.lt_trans
def wY:=@List.mem_range
def wZ:=@List.nodup_append
def wa:=@Bool.eq_iff_iff
def wb:=@List.lookup_append
def wc:=@List.reverse_cons
def wd:=@List.mem_iff_getElem
def we:=@List.mem_map
def wf:=@List.getElem?_range
def wg:=@List.getElem_mem
def wj:=@List.filter_cons_of_neg
def wk:=@Nat.le_of_lt
def wl:=@List.map_map
def wm:=@List.mem_filter
def wn:=@List.dropLast_eq_take
def wo:=@List.length_filter_le
def wp:=@Nat.le_add_right
def wq:=@Bool.or_eq_true
def wt:=@List.getElem?_inj
def wu:=@List.nodup_nil
def wv:=@List.mem_iff_getElem?
def wx:=@List.range_eq_range'
def wy:=@List.nodup_cons
def wz:=@List.map_append
def vA:=@Nat.sub_self
open PySem PySem.Spec in def vB:=@wpAny_bind
open PySem PySem.Spec in def vC:=@wpAny_pure
def vD:=@decide_eq_false
def vE:=@decide_eq_true
def vF:=@decide_eq_true_eq
def vG:=@of_decide_eq_true
open PySem PySem.Spec in def vH:=@wpAny_truthy_bool
def vI:=@beq_self_eq_true
set_option bootstrap.genMatcherCode false
set_option compiler.extract_closed false
set_option genSizeOf false
set_option genSizeOfSpec false
set_option Elab.async false
set_option linter.all false
set_option maxRecDepth 100000
namespace L2
open PySem PySem.Spec PyProof.Rows
noncomputable abbrev Key:=Sum Int Str
noncomputable def F6:Key->Value->Bool
 | .inl k,v=>Value.isInt k v
 | .inr x,v=>Value.isStrOf x v
noncomputable def qFR(w:World):Key->Int
 | .inl k=>hashInt k
 | .inr x=>hashStr w x
theorem qb:∀{k:Key}{v:Value},F6 k v=true->(∃i t,k=Sum.inl i/\v=Value.int i t)\/(∃x t,k=Sum.inr x/\v=Value.str x t)
 | .inl i,v,h=>by
  obtain⟨t,e⟩:=Value.isInt_shape (k:=i) (v:=v) h;exact .inl ⟨i,t,rfl,e⟩
 | .inr x,v,h=>by
  obtain⟨t,e⟩:=Value.isStrOf_shape (x:=x) (v:=v) h;exact .inr ⟨x,t,rfl,e⟩
theorem J4(i:Int)(t:Tok):F6 (.inl i) (.int i t)=true:=by simp[F6,Value.isInt]
theorem N6(x:Str)(t:Tok):F6 (.inr x) (.str x t)=true:=by simp[F6,Value.isStrOf]
theorem qBp(a b:Int):decide ((Sum.inl a:Key)=Sum.inl b)=(a==b):=by
 by_cases e:a=b
 ·subst e;simp
 ·have h:¬ (Sum.inl a:Key)=Sum.inl b:=λq=>e (Sum.inl.inj q);rw[vD h];exact(beq_eq_false_iff_ne.mpr e).symm
theorem qA1(a b:Str):decide ((Sum.inr a:Key)=Sum.inr b)=decide (a=b):=by
 by_cases e:a=b
 ·subst e;simp
 ·have h:¬ (Sum.inr a:Key)=Sum.inr b:=λq=>e (Sum.inr.inj q);rw[vD h,vD e]
theorem qA8(a:Int)(b:Str):decide ((Sum.inl a:Key)=Sum.inr b)=false:=vD (λq=>nomatch q)
theorem qBN(a:Str)(b:Int):decide ((Sum.inr a:Key)=Sum.inl b)=false:=vD (λq=>nomatch q)
noncomputable def qo(prog:Program)(w:World):PySem.KeyKind prog w Key where
 is:=F6
 hash:=qFR w
 inj:=λv a b ha hb=>by
  rcases qb ha with⟨i,t,rfl,rfl⟩|⟨x,t,rfl,rfl⟩
  ·rcases qb hb with⟨j,u,rfl,e⟩|⟨y,u,rfl,e⟩
   ·injection e with e1 _;rw[e1]
   ·exact nomatch e
  ·rcases qb hb with⟨j,u,rfl,e⟩|⟨y,u,rfl,e⟩
   ·exact nomatch e
   ·injection e with e1 _;rw[e1]
 byValue:=λk v h=>by
  rcases qb h with⟨i,t,rfl,rfl⟩|⟨x,t,rfl,rfl⟩<;>rfl
 pyHash:=λhv h=>by
  rcases qb hv with⟨i,t,rfl,rfl⟩|⟨x,t,rfl,rfl⟩
  ·exact wpAny_pyHash_int h
  ·exact wpAny_pyHash_str h
 eqBool:=λhu hv h=>by
  rcases qb hu with⟨i,t,rfl,rfl⟩|⟨x,t,rfl,rfl⟩
  ·rcases qb hv with⟨j,u,rfl,rfl⟩|⟨y,u,rfl,rfl⟩
   ·rw[qBp]at h;exact wpAny_eqBool_int h
   ·rw[qA8]at h;exact SeqAt.EqAt.int_str i t y u _ _ _ _ h
  ·rcases qb hv with⟨j,u,rfl,rfl⟩|⟨y,u,rfl,rfl⟩
   ·rw[qBN]at h;exact SeqAt.EqAt.str_int x t j u _ _ _ _ h
   ·rw[qA1]at h;exact wpAny_eqBool_str h
 «strs»:=λk x t v h=>by
  rcases qb h with⟨i,u,rfl,e⟩|⟨y,u,rfl,e⟩
  ·exact nomatch e
  ·injection e with e1 _;subst e1;cases v<;>rfl
theorem JR(prog:Program)(w:World)(i:Int)(t:Tok):(qo prog w).is (.inl i) (.int i t)=true:=J4 i t
theorem JM(prog:Program)(w:World)(x:Str)(t:Tok):(qo prog w).is (.inr x) (.str x t)=true:=N6 x t
inductive V where
 |non|bl (b:Bool)|int (i:Int)|str (x:Str)|byt (b:Array UInt8)|flt (b:UInt64)|ref (a:Addr)|ty (n:String)
 deriving DecidableEq
def RelV:V->Value->Prop
 | .non,u=>u=Value.none
 | .bl b,u=>u=Value.bool b
 | .int i,u=>∃t,u=Value.int i t
 | .str x,u=>∃t,u=Value.str x t
 | .byt b,u=>∃t,u=Value.bytes b t
 | .flt b,u=>∃t,u=Value.float b t
 | .ref a,u=>u=Value.ref a
 | .ty n,u=>u=Value.type n
abbrev Vals:List V->List Value->Prop:=Paired RelV
theorem Vals.length{xs:List V}{us:List Value}(r:Vals xs us):xs.length=us.length:=Paired.length r
theorem Vals.get:∀{xs:List V}{us:List Value}{i:Nat}{x:V},Vals xs us->xs[i]?=some x->∃u,us[i]?=some u/\RelV x u
 |_,_,_,_,.nil,e=>by simp at e
 |_,_,0,_,.cons r _,e=>by simp at e;subst e;exact⟨_,rfl,r⟩
 |_,_,i+1,x,.cons _ t,e=>by
  obtain⟨u,h1,h2⟩:=Vals.get (i:=i) (x:=x) t (by simpa using e);exact⟨u,by simpa using h1,h2⟩
theorem Vals.set{x:V}{u:Value}(r:RelV x u):∀{xs:List V}{us:List Value}(i:Nat),Vals xs us->Vals (xs.set i x) (us.set i u)
 |_,_,_,.nil=>.nil
 |_,_,0,.cons _ t=>.cons r t
 |_,_,i+1,.cons q t=>.cons q (Vals.set r i t)
theorem Vals.append:∀{xs ys:List V}{us ws:List Value},Vals xs us->Vals ys ws->Vals (xs++ys) (us++ws)
 |_,_,_,_,.nil,s=>s
 |_,_,_,_,.cons r t,s=>.cons r (Vals.append t s)
theorem Vals.take:∀{xs:List V}{us:List Value}(n:Nat),Vals xs us->Vals (xs.take n) (us.take n)
 |_,_,0,_=>.nil
 |_,_,_+1,.nil=>.nil
 |_,_,n+1,.cons r t=>.cons r (Vals.take n t)
theorem Vals.drop:∀{xs:List V}{us:List Value}(n:Nat),Vals xs us->Vals (xs.drop n) (us.drop n)
 |_,_,0,r=>r
 |_,_,_+1,.nil=>.nil
 |_,_,n+1,.cons _ t=>Vals.drop n t
def RelO:Option V->Option Value->Prop
 |some v,some u=>RelV v u
 |none,none=>True
 |_,_=>False
def KV{κ:Type}:List (κ×V)->List (κ×Value)->Prop:=Paired λ(p:κ×V) (q:κ×Value)=>p.1=q.1/\RelV p.2 q.2
noncomputable def kV:Key->V
 | .inl i=>.int i
 | .inr x=>.str x
inductive HO where
 |lst (xs:List V)
 |tup (xs:List V)
 |dK (kvs:List (Key×V))|dT (kvs:List (List Key×V))
 |set (S:Int->Bool) (n:Nat)
 |ins (C dx:Addr) (fs:List (Str×V))
 |own (x:Addr)
 |xd (fs:List (Str×V))
 |met (f x:Addr)
 |rng (lo hi:Int)
 |frz (o:Obj) (u:HO)
 |tbl (ps:Array Value)
 |ext (φ:Heap->Prop)
noncomputable abbrev Hp:=Addr->Option HO
noncomputable def upd(H:Hp)(a:Addr)(o:HO):Hp:=λb=>if b=a then some o else H b
theorem qF{H:Hp}{a:Addr}{o:HO}:upd H a o a=some o:=by unfold upd;rw[if_pos rfl]
theorem qD{H:Hp}{a b:Addr}{o:HO}(h:b≠a):upd H a o b=H b:=by unfold upd;rw[if_neg h]
theorem qDI{H:Hp}{a b:Addr}{o u:HO}(h:H a=some o)(h':H b=some u)(d:o≠u):a≠b:=by
 intro e;subst e;rw[h]at h';exact d (Option.some.inj h')
theorem ne_of_none{H:Hp}{a b:Addr}{o:HO}(h:H a=some o)(h':H b=none):a≠b:=by
 intro e;subst e;rw[h]at h';cases h'
section
variable (P:Program)(w:World)
def ObjOk(H:Hp)(h:Heap)(a:Addr):HO->Prop
 | .lst xs=>xs.length<=sizeLine/\∃(its:List Value) (n:Nat),Vals xs its/\h.get? a=some { cls:=.type "list",data:=.seq its.toArray n }
 | .tup xs=>xs.length<=sizeLine/\∃its:List Value,Vals xs its/\IsTup h a its.toArray
 | .dK kvs=>kvs.length<=sizeLine/\(a==sysModules)=false/\∃vs,KV kvs vs/\h.DictOf (qo P w) a vs
 | .dT kvs=>kvs.length<=sizeLine/\(a==sysModules)=false/\∃xs:List (List Key×Addr×Value),
   Paired (λ(p:List Key×V) (q:List Key×Addr×Value)=>p.1=q.1/\H q.2.1=some (.tup (p.1.map kV))/\RelV p.2 q.2.2) kvs xs/\
   ∃o es ep,h.get? a=some o/\o.ExactDict/\o.data=.dict es ep/\es.toList=xs.map (entryOfKey (tupleKind (qo P w)))/\(xs.map (·.1)).Nodup
 | .set S n=>h.SetOf (intKind P w) a S n
 | .ins C dx fs=>H dx=some (.own a)/\fs.length<=1000/\dx≠a/\h.get? a=some (PySem.W.instObj C dx)/\
   ∃mA,h.Ns1 dx mA/\(∀f,RelO (fs.lookup f) (mA f))/\PySem.Within mA (fs.map (·.1))
 | .own _=>∃o,h.get? a=some o
 | .xd fs=>∃mA,h.Ns1 a mA/\∀f,RelO (fs.lookup f) (mA f)
 | .rng lo hi=>∃t u v,h.get? a=some { cls:=.type "range",data:=.fields #[.int lo t,.int hi u,.int 1 v] }
 | .frz o u=>h.get? a=some o/\ObjOk H h a u
 | .tbl ps=>h.get? a=some { cls:=.none,data:=.fields ps }
 | .met f x=>h.get? a=some (PySem.W.methodObj (.ref f) (.ref x))
 | .ext φ=>φ h/\(∃o,h.get? a=some o)/\∀h1 h2:Heap,φ h1->(∀o,h1.get? a=some o->h2.get? a=some o)->φ h2
def HOk(H:Hp)(h:Heap):Prop:=∀a o,H a=some o->ObjOk P w H h a o
end
section
variable{P:Program}{w:World}{H H':Hp}{h h':Heap}{a:Addr}{o:HO}
theorem ObjOk.lt(x:ObjOk P w H h a o):a<h.objs.size:=by
 cases o with
 |lst xs=>obtain⟨_,_,_,_,e⟩:=x;exact Heap.lt_size e
 |tup xs=>obtain⟨_,_,_,p⟩:=x;exact p.lt
 |dK kvs=>obtain⟨_,_,_,_,o,_,_,e,_⟩:=x;exact Heap.lt_size e
 |dT kvs=>obtain⟨_,_,_,_,o,_,_,e,_⟩:=x;exact Heap.lt_size e
 |set S n=>obtain⟨o,_,_,_,e,_⟩:=x;exact Heap.lt_size e
 |ins C dx fs=>obtain⟨_,_,_,e,_⟩:=x;exact Heap.lt_size e
 |own y=>obtain⟨_,e⟩:=x;exact Heap.lt_size e
 |xd fs=>obtain⟨_,⟨_,_,_,e,_⟩,_⟩:=x;exact Heap.lt_size e
 |rng lo hi=>obtain⟨_,_,_,e⟩:=x;exact Heap.lt_size e
 |frz ob u=>obtain⟨e,_⟩:=x;exact Heap.lt_size e
 |tbl ps=>exact Heap.lt_size (show h.get? a=some _ from x)
 |met f y=>exact Heap.lt_size (show h.get? a=some _ from x)
 |ext φ=>obtain⟨_,⟨_,e⟩,_⟩:=x;exact Heap.lt_size e
theorem Paired.mapP{α β:Type}{F G:α->β->Prop}:∀{l₁:List α}{l₂:List β},Paired F l₁ l₂->(∀a b,F a b->G a b)->Paired G l₁ l₂
 |_,_,.nil,_=>.nil
 |_,_,.cons r t,f=>.cons (f _ _ r) (Paired.mapP t f)
theorem ObjOk.stay(x:ObjOk P w H h a o)(k:∀b u,(b=a\/H b=some (.own a))->h.get? b=some u->h'.get? b=some u)
  (ho:∀b,H b=some (.own a)->H' b=some (.own a)) (ht:∀b xs,H b=some (.tup xs)->H' b=some (.tup xs)):ObjOk P w H' h' a o:=by
 induction o with
 |lst xs=>obtain⟨z,its,n,r,e⟩:=x;exact⟨z,its,n,r,k _ _ (.inl rfl) e⟩
 |tup xs=>obtain⟨z,its,r,ob,e,c⟩:=x;exact⟨z,its,r,ob,k _ _ (.inl rfl) e,c⟩
 |dK kvs=>obtain⟨z,y,vs,r,ob,es,ep,e,c⟩:=x;exact⟨z,y,vs,r,ob,es,ep,k _ _ (.inl rfl) e,c⟩
 |dT kvs=>
  obtain⟨z,y,xs,r,ob,es,ep,e,c⟩:=x;exact⟨z,y,xs,Paired.mapP r λp q z=>⟨z.1,ht _ _ z.2.1,z.2.2⟩,ob,es,ep,k _ _ (.inl rfl) e,c⟩
 |set S n=>obtain⟨ob,es,ep,t,e,c⟩:=x;exact⟨ob,es,ep,t,k _ _ (.inl rfl) e,c⟩
 |ins C dx fs=>
  obtain⟨d,z,ne,e,mA,⟨od,es,ep,e2,c⟩,r⟩:=x;exact⟨ho _ d,z,ne,k _ _ (.inl rfl) e,mA,⟨od,es,ep,k _ _ (.inr d) e2,c⟩,r⟩
 |own y=>obtain⟨ob,e⟩:=x;exact⟨ob,k _ _ (.inl rfl) e⟩
 |xd fs=>obtain⟨mA,⟨od,es,ep,e,c⟩,r⟩:=x;exact⟨mA,⟨od,es,ep,k _ _ (.inl rfl) e,c⟩,r⟩
 |rng lo hi=>obtain⟨t,u,v,e⟩:=x;exact⟨t,u,v,k _ _ (.inl rfl) e⟩
 |frz ob u ih=>obtain⟨e,q⟩:=x;exact⟨k _ _ (.inl rfl) e,ih q⟩
 |tbl ps=>
  have e:h.get? a=some { cls:=.none,data:=.fields ps }:=x;show h'.get? a=some { cls:=.none,data:=.fields ps };exact k a _ (.inl rfl) e
 |met f y=>
  have e:h.get? a=some (PySem.W.methodObj (.ref f) (.ref y)):=x;show h'.get? a=some (PySem.W.methodObj (.ref f) (.ref y));exact k a _ (.inl rfl) e
 |ext φ=>obtain⟨p,⟨o,e⟩,st⟩:=x;exact⟨st _ _ p λo q=>k _ _ (.inl rfl) q,⟨o,k _ _ (.inl rfl) e⟩,st⟩
theorem HOk.lt(x:HOk P w H h)(e:H a=some o):a<h.objs.size:=(x a o e).lt
theorem HOk.fresh(x:HOk P w H h)(e:h.objs.size<=a):H a=none:=by
 cases q:H a with
 |none=>rfl
 |some u=>exact absurd (wC (x.lt q) e) (Nat.lt_irrefl _)
theorem HOk.kept(x:HOk P w H h)(k:∀b u,h.get? b=some u->h'.get? b=some u):HOk P w H h':=λa o e=>
 (x a o e).stay (λb u _ q=>k b u q) (λ_ q=>q) λ_ _ q=>q
theorem HOk.laid(x:HOk P w H h)(k:∀b u,h.get? b=some u->h'.get? b=some u)(hp:h.objs.size<=a)(new:ObjOk P w (upd H a o) h' a o):HOk P w (upd H a o) h':=λb u e=>by
 have hn:=x.fresh hp;by_cases hb:b=a
 ·subst hb;rw[qF]at e;cases e;exact new
 ·rw[qD hb]at e;exact(x b u e).stay (λc v _ q=>k c v q) (λc q=>by rw[qD (ne_of_none q hn)];exact q) λc xs q=>by rw[qD (ne_of_none q hn)];exact q
end
def Rd(H:Hp)(a:Addr)(u:HO):Prop:=H a=some u\/∃o,H a=some (.frz o u)
theorem Rd.ok{P:Program}{w:World}{H:Hp}{h:Heap}{a:Addr}{u:HO}(r:Rd H a u)(x:HOk P w H h):ObjOk P w H h a u:=by
 rcases r with r|⟨o,r⟩
 ·exact x a u r
 ·obtain⟨_,q⟩:=x a _ r;exact q
def Mut:Option HO->Prop
 |some (.lst _)=>True
 |some (.dK _)=>True
 |some (.dT _)=>True
 |some (.set _ _)=>True
 |some (.ins _ _ _)=>True
 |some (.ext _)=>True
 |_=>False
section
variable{P:Program}{w:World}{H:Hp}{h h':Heap}{x e:Addr}{o':HO}
theorem HOk.write(ok:HOk P w H h)(mu:Mut (H x))(he:e=x\/H e=some (.own x))(k:∀b u,b≠e->h.get? b=some u->h'.get? b=some u)(heo:∃u,h'.get? e=some u)
  (new:ObjOk P w (upd H x o') h' x o'):HOk P w (upd H x o') h':=λb u q=>by
 have nown:∀c y,H c=some (.own y)->c≠x:=λc y r z=>by subst z;rw[r]at mu;exact mu
 have ntup:∀c xs,H c=some (.tup xs)->c≠x:=λc xs r z=>by subst z;rw[r]at mu;exact mu
 by_cases hb:b=x
 ·subst hb;rw[qF]at q;cases q;exact new
 ·rw[qD hb]at q;by_cases hbe:b=e
  ·have q':H b=some (.own x):=by
    rcases he with z|z
    ·exact absurd (hbe.trans z) hb
    ·rw[hbe];exact z
   rw[q]at q';cases q';obtain⟨v,hv⟩:=heo;exact⟨v,by rw[hbe];exact hv⟩
  ·refine(ok b u q).stay (λc v hc r=>k c v ?_ r) (λc r=>by rw[qD (nown c b r)];exact r) λc xs r=>by rw[qD (ntup c xs r)];exact r
   rcases hc with rfl|hc
   ·exact hbe
   ·rintro rfl;rcases he with z|z
    ·exact nown c b hc z
    ·rw[hc]at z;cases z;exact hb rfl
end
structure Un(fs ex:List Addr)(H H':Hp)(h h':Heap):Prop where
 keep:∀b o,h.get? b=some o->H b=none->b∉fs->b∉ex->h'.get? b=some o
 slot:∀b o,h.get? b=some o->H b=none->b∈fs->b∉ex->∃sl,h'.get? b=some { o with slots:=sl }
 free:∀b o,h.get? b=some o->H b=none->b∉ex->H' b=none
 there:∀b o,h.get? b=some o->b∉ex->∃o',h'.get? b=some o'
 tups:∀b xs,H b=some (.tup xs)->H' b=some (.tup xs)
 frzs:∀b o u,H b=some (.frz o u)->H' b=some (.frz o u)
 tbls:∀b ps,H b=some (.tbl ps)->∃more,H' b=some (.tbl (ps++more))
section
variable{fs fs' ex ex':List Addr}{H H1 H2:Hp}{h h1 h2 h':Heap}{a x e:Addr}{o:HO}
theorem Un.any(u:Un fs ex H H1 h h1){b:Addr}{ob:Obj}(q:h.get? b=some ob)(n:H b=none)(hx:b∉ex):∃sl,h1.get? b=some { ob with slots:=sl }:=by
 by_cases hb:b∈fs
 ·exact u.slot b ob q n hb hx
 ·exact⟨ob.slots,u.keep b ob q n hb hx⟩
theorem Un.kept(k:∀b u,h.get? b=some u->h'.get? b=some u):Un fs ex H H h h':=
 ⟨λb ob q _ _ _=>k b ob q,λb ob q _ _ _=>⟨ob.slots,k b ob q⟩,λ_ _ _ n _=>n,λb ob q _=>⟨ob,k b ob q⟩,λ_ _ q=>q,λ_ _ _ q=>q,λ_ ps q=>⟨#[],by rw[q];simp⟩⟩
theorem Un.refl:Un fs ex H H h h:=Un.kept λ_ _ q=>q
theorem Un.laid(k:∀b u,h.get? b=some u->h'.get? b=some u)(hp:h.objs.size<=a)(hn:H a=none):Un fs ex H (upd H a o) h h' where
 keep:=λb u q _ _ _=>k b u q
 slot:=λb u q _ _ _=>⟨u.slots,k b u q⟩
 free:=λb u q n _=>by rw[qD (wJ (wC (Heap.lt_size q) hp))];exact n
 there:=λb u q _=>⟨u,k b u q⟩
 tups:=λb xs q=>by rw[qD (ne_of_none q hn)];exact q
 frzs:=λb u xs q=>by rw[qD (ne_of_none q hn)];exact q
 tbls:=λb ps q=>⟨#[],by rw[qD (ne_of_none q hn),q];simp⟩
theorem Un.write(mu:Mut (H x))(he:e=x\/H e=some (.own x))(k:∀b u,b≠e->h.get? b=some u->h'.get? b=some u)(heo:∃u,h'.get? e=some u):Un fs ex H (upd H x o) h h':=by
 have hx:∀b,H b=none->b≠x:=λb n z=>by subst z;rw[n]at mu;exact mu
 have hb:∀b,H b=none->b≠e:=λb n z=>by
  subst z;rcases he with r|r
  ·exact hx b n r
  ·rw[n]at r;cases r
 have hm:∀b u,H b=some u->¬ Mut (some u)->b≠x:=λb u q nm z=>by subst z;rw[q]at mu;exact nm mu
 refine⟨λb u q n _ _=>k b u (hb b n) q,λb u q n _ _=>⟨u.slots,k b u (hb b n) q⟩,λb u q n _=>by rw[qD (hx b n)];exact n,λb u q _=>?_,
  λb xs q=>by rw[qD (hm b _ q λz=>z)];exact q,λb u xs q=>by rw[qD (hm b _ q λz=>z)];exact q,λb ps q=>⟨#[],by rw[qD (hm b _ q λz=>z),q];simp⟩⟩
 by_cases hbe:b=e
 ·subst hbe;exact heo
 ·exact⟨u,k b u hbe q⟩
end
noncomputable def trk(h:Heap)(H:Hp):List Addr:=(List.range h.objs.size).filter λa=>(H a).isSome
noncomputable def S8(h:Heap)(H:Hp):Heap:=PySem.W.hideAll h (trk h H)
theorem O2(h:Heap)(H:Hp):(S8 h H).objs.size=h.objs.size:=PySem.W.hideAll_size _ _
theorem Y6{h:Heap}{H:Hp}{b:Addr}{o:Obj}(e:h.get? b=some o)(n:H b=none):(S8 h H).get? b=some o:=
 PySem.W.hideAll_get _ e λhm=>by
  have q:(H b).isSome=true:=(wm.mp hm).2;rw[n]at q;simp at q
theorem qAc{h:Heap}{H:Hp}{b:Addr}{o:Obj}(e:(S8 h H).get? b=some o):h.get? b=some o/\H b=none:=by
 have e':h.get? b=some o:=PySem.W.of_hideAll (trk h H) e;refine⟨e',?_⟩;cases q:H b with
 |none=>rfl
 |some x=>
  have hm:b∈trk h H:=wm.mpr ⟨wY.mpr (Heap.lt_size e'),by simp[q]⟩;have z:(S8 h H).get? b=none:=PySem.W.hideAll_none (trk h H) hm;rw[z]at e;cases e
noncomputable def qAT(g h:Heap)(L:Addr):List (Addr×Obj):=(List.range h.objs.size).filterMap λa=>if a=L\/(g.get? a).isSome=true then none else (h.get? a).map λo=>(a,o)
noncomputable def jO(g h:Heap)(L d:Addr):List (Addr×Obj):=(qAT g h L).filter λp=>decide (p.1≠d)
structure Mod(K:PySem.W.Frag)(mg:Str->Option Value)(base:Heap):Prop where
 kin:K.In base
 glob:base.Ns mainGlobals mg
 blt:∃mb,base.Ns builtinsNs mb/\∀x:Str,x≠"__name__" -> mb x=bootBuiltins x
 nolimit:base.NoLimit
structure Cx where
 prog:Program
 w:World
 K:PySem.W.Frag
 mg:Str->Option Value
 base:Heap
 A:Around
 N:List Str
 s₀:Shared
 H₀:Hp
 env:Env
 outer:List Env
 stack:List Env
 ex:List Addr
 fn:Str->Bool
 calm:Bool
 pn:List (Addr×Obj)
 xe:Value->Shared->Prop
noncomputable def frs(l:List Env):List Addr:=l.filterMap (·.frame)
noncomputable abbrev Cx.fs(X:Cx):List Addr:=frs X.outer
def Vis(sc:Scope)(x:Str):Prop:=sc.names.lookup x=some .local\/sc.names.lookup x=some .cell\/sc.names.lookup x=some .free
def Loc(sc:Scope)(x:Str):Prop:=sc.names.lookup x=some .local\/sc.names.lookup x=some .cell
def qFd(env:Env)(h:Heap)(m:Str->Option Value)(x:Str)(u:Value):Prop:=
 (env.kindOf x=some .local/\m x=some u)\/((env.kindOf x=some .cell\/env.kindOf x=some .free)/\∃c,env.cells.lookup x=some c/\h.IsCell c (some u))
structure Cx.Ok(X:Cx):Prop where
 mod:Mod X.K X.mg X.base
 kind:X.env.scope.kind=.function
 glob:X.env.globals=mainGlobals
 blt:X.env.builtins=builtinsNs
 above:X.s₀.heap.objs.size<=X.env.locals
 inj:∀x y c,X.env.cells.lookup x=some c->X.env.cells.lookup y=some c->x=y
 has:∀x,(X.env.kindOf x=some .cell\/X.env.kindOf x=some .free)->∃c,X.env.cells.lookup x=some c
 cab:∀x c,X.fn x=true->X.env.cells.lookup x=some c->X.s₀.heap.objs.size<=c
 hd:X.calm=true->X.A.handled=none
 frames:X.A.frames=some X.stack
 stk:X.stack=X.outer\/(X.stack=X.env::X.outer/\X.env.frame=some X.env.locals)
 exf:∀b∈X.ex,b≠X.env.locals/\∀x c,X.env.cells.lookup x=some c->c≠b
 bs:∀b o,X.base.get? b=some o->X.s₀.heap.get? b=some o/\X.H₀ b=none
 bsz:X.base.objs.size<=X.s₀.heap.objs.size
 noex:∀b o,X.base.get? b=some o->b∉X.ex
 exfs:∀b∈X.ex,b∉X.fs
 funs:X.s₀.heap.FunFrames X.base X.outer
 frf:∀b∈X.fs,X.H₀ b=none
structure Inv(X:Cx)(pins:List (Addr×Obj))(σ:List (Option V))(H:Hp)(s:Shared):Prop where
 ok:X.Ok
 os:s.os=X.s₀.os
 bare:AllBare s.gens
 base:Un X.fs X.ex X.H₀ H X.s₀.heap s.heap
 loc:∃m,s.heap.Ns X.env.locals m/\∀(i:Nat) (x:Str) (v:V),X.N[i]?=some x->σ[i]?=some (some v)->Vis X.env.scope x->∃u,RelV v u/\qFd X.env s.heap m x u
 cell:∀x c,X.env.cells.lookup x=some c->∃v,s.heap.IsCell c v
 free:H X.env.locals=none
 freeC:∀x c,X.env.cells.lookup x=some c->H c=none
 pin:∀p∈X.pn++pins,s.heap.get? p.1=some p.2/\H p.1=none/\p.1≠X.env.locals/\p.1∉X.fs/\∀v,p.2.data≠.cell v
 hok:HOk X.prog X.w H s.heap
 len:σ.length=X.N.length
section
variable{X:Cx}{pins:List (Addr×Obj)}{σ:List (Option V)}{H H':Hp}{s:Shared}{h':Heap}
theorem Cx.Ok.nofr(ok:X.Ok){b:Addr}{o:Obj}(e:X.base.get? b=some o):b∉X.fs:=λhb=>by
 have:=(ok.funs.mem hb).1;rw[e]at this;cases this
theorem Inv.bs(I:Inv X pins σ H s):∀b o,X.base.get? b=some o->s.heap.get? b=some o/\H b=none:=λb o e=>
 ⟨I.base.keep b o (I.ok.bs b o e).1 (I.ok.bs b o e).2 (I.ok.nofr e) (I.ok.noex b o e),I.base.free b o (I.ok.bs b o e).1 (I.ok.bs b o e).2 (I.ok.noex b o e)⟩
theorem Inv.bk(I:Inv X pins σ H s):∀b o,X.base.get? b=some o->s.heap.get? b=some o:=λb o e=>(I.bs b o e).1
theorem Inv.mod(I:Inv X pins σ H s):Mod X.K X.mg X.base:=I.ok.mod
theorem Inv.kIn(I:Inv X pins σ H s):X.K.In s.heap:=I.ok.mod.kin.keeps I.bk
theorem Inv.lt(I:Inv X pins σ H s):X.env.locals<s.heap.objs.size:=let ⟨_,hn,_⟩:=I.loc;hn.lt
theorem Inv.sz(I:Inv X pins σ H s):X.s₀.heap.objs.size<=s.heap.objs.size:=Nat.le_trans I.ok.above (wk I.lt)
theorem Inv.nofs(I:Inv X pins σ H s){a:Addr}(h:s.heap.objs.size<=a):a∉X.fs:=λhb=>by
 obtain⟨_,o,ho,_⟩:=I.ok.funs.mem hb;exact absurd (wC (Heap.lt_size ho) (Nat.le_trans I.sz h)) (Nat.lt_irrefl _)
theorem Inv.cne(I:Inv X pins σ H s):∀x c,X.env.cells.lookup x=some c->c≠X.env.locals:=λx c e z=>by
 obtain⟨v,o,ho,hd⟩:=I.cell x c e;obtain⟨m,⟨o',es,ep,ho',hd',_⟩,_⟩:=I.loc;rw[z,ho']at ho;cases ho;rw[hd']at hd;cases hd
theorem Inv.funs(I:Inv X pins σ H s):s.heap.FunFrames X.base X.outer:=by
 have all:∀(l:List Env),(∀b∈frs l,b∈X.fs)->X.s₀.heap.FunFrames X.base l->s.heap.FunFrames X.base l:=by
  intro l
  induction l with
  |nil=>intro _ _;trivial
  |cons env r ih=>
   intro hs hl;obtain⟨hk,⟨L,o,hf,hn,ho,hd⟩,hr⟩:=hl;have hL:L∈X.fs:=hs L (by unfold frs;rw[wR,hf];exact List.mem_cons_self);obtain⟨sl,e⟩:=I.base.slot L o ho (I.ok.frf L hL) hL λz=>I.ok.exfs L z hL;exact⟨hk,⟨L,_,hf,hn,e,hd⟩,ih (λb hb=>hs b (by unfold frs;rw[wR,hf];exact List.mem_cons_of_mem _ hb)) hr⟩
 exact all X.outer (λ_ hb=>hb) I.ok.funs
theorem Inv.stack(I:Inv X pins σ H s):s.heap.FunFrames X.base X.stack:=by
 rcases I.ok.stk with e|⟨e,hf⟩
 ·rw[e];exact I.funs
 ·rw[e];obtain⟨m,hn,_⟩:=I.loc;refine .cons (by rw[I.ok.kind];decide) hf hn ?_ I.funs;exact Heap.get?_none_of_le (Nat.le_trans I.ok.bsz I.ok.above)
theorem Inv.stkSub(I:Inv X pins σ H s):∀b∈frs X.stack,b∈X.env.locals::X.fs:=λb hb=>by
 rcases I.ok.stk with e|⟨e,hf⟩
 ·rw[e]at hb;exact List.mem_cons_of_mem _ hb
 ·rw[e]at hb;unfold frs at hb;rw[wR,hf]at hb;exact hb
theorem Inv.stkFree(I:Inv X pins σ H s):∀b∈frs X.stack,H b=none:=λb hb=>by
 rcases List.mem_cons.mp (I.stkSub b hb) with e|hb
 ·rw[e];exact I.free
 ·obtain⟨_,o,ho,_⟩:=I.ok.funs.mem hb;exact I.base.free b o ho (I.ok.frf b hb) λz=>I.ok.exfs b z hb
theorem Inv.step{g':Array GenState}{t':Nat}{d':Drawn}{ch:List Addr}(I:Inv X pins σ H s)
  (hch:∀b∈ch,(b∈X.ex\/X.s₀.heap.objs.size<=b)/\b≠X.env.locals/\(∀x c,X.env.cells.lookup x=some c->c≠b)/\∀p∈X.pn++pins,p.1≠b)
  (keep:∀b o,b≠X.env.locals->b∉X.fs->b∉ch->s.heap.get? b=some o->H b=none->h'.get? b=some o)
  (slot:∀b o,b≠X.env.locals->b∈X.fs->b∉ch->s.heap.get? b=some o->H b=none->∃sl,h'.get? b=some { o with slots:=sl }) (free:∀b o,b∉ch->s.heap.get? b=some o->H b=none->H' b=none)
  (there:∀b o,b∉ch->s.heap.get? b=some o->∃o',h'.get? b=some o')
  (tups:∀b xs,H b=some (.tup xs)->H' b=some (.tup xs)) (frzs:∀b o u,H b=some (.frz o u)->H' b=some (.frz o u)) (tbls:∀b ps,H b=some (.tbl ps)->∃more,H' b=some (.tbl (ps++more)))
  (ns:∀m,s.heap.Ns X.env.locals m->h'.Ns X.env.locals m) (hok:HOk X.prog X.w H' h') (hg:AllBare g'):
  Inv X pins σ H' { s with heap:=h',gens:=g',drawn:=d',toks:=t' }:=by
 have neL:∀b o,X.s₀.heap.get? b=some o->b≠X.env.locals:=λb o e=>wJ (wC (Heap.lt_size e) I.ok.above);have neC:∀b o,X.s₀.heap.get? b=some o->b∉X.ex->b∉ch:=λb o e hx hb=>by
  rcases(hch b hb).1 with z|z
  ·exact hx z
  ·exact absurd (wC (Heap.lt_size e) z) (Nat.lt_irrefl _)
 have cellK:∀x c,X.env.cells.lookup x=some c->∀v,s.heap.IsCell c v->h'.IsCell c v:=λx c e v ⟨o,ho,hd⟩=>by
  have nch:c∉ch:=λz=>(hch c z).2.2.1 x c e rfl;by_cases hc:c∈X.fs
  ·obtain⟨sl,q⟩:=slot c o (I.cne x c e) hc nch ho (I.freeC x c e);exact⟨_,q,hd⟩
  ·exact⟨o,keep c o (I.cne x c e) hc nch ho (I.freeC x c e),hd⟩
 refine⟨I.ok,I.os,hg,⟨λb o e n hb hx=>?_,λb o e n hb hx=>?_,λb o e n hx=>?_,λb o e hx=>?_,λb xs e=>tups b xs (I.base.tups b xs e),λb o xs e=>frzs b o xs (I.base.frzs b o xs e),λb ps e=>?_⟩,?_,λx c e=>?_,?_,λx c e=>?_,λp hp=>?_,hok,I.len⟩
 ·exact keep b o (neL b o e) hb (neC b o e hx) (I.base.keep b o e n hb hx) (I.base.free b o e n hx)
 ·obtain⟨sl,e1⟩:=I.base.slot b o e n hb hx;obtain⟨sl',e2⟩:=slot b _ (neL b o e) hb (neC b o e hx) e1 (I.base.free b o e n hx);exact⟨sl',e2⟩
 ·obtain⟨o',e1⟩:=I.base.there b o e hx;exact free b o' (neC b o e hx) e1 (I.base.free b o e n hx)
 ·obtain⟨o',e1⟩:=I.base.there b o e hx;exact there b o' (neC b o e hx) e1
 ·obtain⟨m1,e1⟩:=I.base.tbls b ps e;obtain⟨m2,e2⟩:=tbls b _ e1;exact⟨m1++m2,by rw[e2,Array.append_assoc]⟩
 ·obtain⟨m,hn,hl⟩:=I.loc;refine⟨m,ns m hn,λi x v e1 e2 e3=>?_⟩;obtain⟨u,r,l⟩:=hl i x v e1 e2 e3;refine⟨u,r,?_⟩;rcases l with l|⟨k,c,e,z⟩
  ·exact .inl l
  ·exact .inr ⟨k,c,e,cellK x c e _ z⟩
 ·obtain⟨v,z⟩:=I.cell x c e;exact⟨v,cellK x c e v z⟩
 ·obtain⟨m,⟨o,_,_,ho,_⟩,_⟩:=I.loc;exact free _ o (λz=>(hch _ z).2.1 rfl) ho I.free
 ·obtain⟨v,o,ho,hd⟩:=I.cell x c e;exact free c o (λz=>(hch c z).2.2.1 x c e rfl) ho (I.freeC x c e)
 ·obtain⟨e,n,ne,nf,d⟩:=I.pin p hp;have nch:p.1∉ch:=λz=>(hch p.1 z).2.2.2 p hp rfl;exact⟨keep p.1 p.2 ne nf nch e n,free p.1 p.2 nch e n,ne,nf,d⟩
theorem Inv.un{t':Nat}(I:Inv X pins σ H s)(u:Un X.fs [] H H' s.heap h')(hok:HOk X.prog X.w H' h'):Inv X pins σ H' { s with heap:=h',toks:=t' }:=by
 obtain⟨m,⟨o,es,ep,ho,r⟩,_⟩:=id I.loc;obtain⟨sl,hL⟩:=u.any ho I.free (by simp);exact I.step (g':=s.gens) (d':=s.drawn) (ch:=[]) (λ_ z=>nomatch z) (λb o _ hb _ e n=>u.keep b o e n hb (by simp)) (λb o _ hb _ e n=>u.slot b o e n hb (by simp)) (λb o _ e n=>u.free b o e n (by simp)) (λb o _ e=>u.there b o e (by simp)) u.tups u.frzs u.tbls (λm' hm=>by
  obtain⟨o',es',ep',ho',r'⟩:=hm;rw[ho]at ho';cases ho';exact⟨_,es',ep',hL,r'⟩) hok I.bare
theorem Inv.call{g':Array GenState}{t':Nat}{d':Drawn}{ch:List Addr}(I:Inv X pins σ H s)(u:Un (frs X.stack) ch H H' s.heap h')(hok:HOk X.prog X.w H' h')(hg:AllBare g')
  (hch:∀b∈ch,(b∈X.ex\/X.s₀.heap.objs.size<=b)/\b≠X.env.locals/\(∀x c,X.env.cells.lookup x=some c->c≠b)/\∀p∈X.pn++pins,p.1≠b):
  Inv X pins σ H' { s with heap:=h',gens:=g',drawn:=d',toks:=t' }:=by
 obtain⟨m,⟨o,es,ep,ho,r⟩,_⟩:=id I.loc;obtain⟨sl,hL⟩:=u.any ho I.free λz=>(hch _ z).2.1 rfl;exact I.step (ch:=ch) hch (λb o hL hb hc e n=>u.keep b o e n (λz=>(List.mem_cons.mp (I.stkSub b z)).elim hL hb) hc) (λb o _ _ hc e n=>u.any e n hc) (λb o hc e n=>u.free b o e n hc) (λb o hc e=>u.there b o e hc) u.tups u.frzs u.tbls (λm' hm=>by
  obtain⟨o',es',ep',ho',r'⟩:=hm;rw[ho]at ho';cases ho';exact⟨_,es',ep',hL,r'⟩) hok hg
theorem Inv.turned{t':Nat}{it:Addr}(I:Inv X pins σ H s)(k:∀b o,b≠it->s.heap.get? b=some o->h'.get? b=some o)(hn:H it=none)(hL:it≠X.env.locals)
  (h1:it∈X.ex\/X.s₀.heap.objs.size<=it) (h2:∀x c,X.env.cells.lookup x=some c->c≠it) (h3:∀p∈X.pn++pins,p.1≠it):Inv X pins σ H { s with heap:=h',toks:=t' }:=by
 have nit:∀b u,H b=some u->b≠it:=λb u e z=>by rw[z,hn]at e;cases e
 refine I.step (g':=s.gens) (d':=s.drawn) (ch:=[it]) (λb hb=>?_) (λb o _ _ hc e _=>k b o (λz=>hc (by simp[z])) e) (λb o _ _ hc e _=>⟨o.slots,k b o (λz=>hc (by simp[z])) e⟩) (λ_ _ _ _ n=>n)
  (λb o hc e=>⟨o,k b o (λz=>hc (by simp[z])) e⟩) (λ_ _ e=>e) (λ_ _ _ e=>e) (λb ps e=>⟨#[],by rw[e];simp⟩) (λm hm=>?_) (λb u e=>?_) I.bare
 ·have e:b=it:=by simpa using hb
  subst e;exact⟨h1,hL,h2,h3⟩
 ·obtain⟨o,es,ep,ho,r⟩:=hm;exact⟨o,es,ep,k _ o (Ne.symm hL) ho,r⟩
 ·refine(I.hok b u e).stay (λc v hc q=>k c v ?_ q) (λ_ q=>q) λ_ _ q=>q;rcases hc with z|z
  ·rw[z];exact nit b u e
  ·exact nit c _ z
theorem Inv.tok(I:Inv X pins σ H s)(t:Nat):Inv X pins σ H { s with toks:=t }:=I.un (h':=s.heap) (t':=t) Un.refl I.hok
theorem Inv.kept{t':Nat}(I:Inv X pins σ H s)(k:∀b u,s.heap.get? b=some u->h'.get? b=some u):Inv X pins σ H { s with heap:=h',toks:=t' }:=I.un (Un.kept k) (I.hok.kept k)
theorem Inv.laid{a:Addr}{o:HO}{t':Nat}(I:Inv X pins σ H s)(k:∀b u,s.heap.get? b=some u->h'.get? b=some u)(hp:s.heap.objs.size<=a)(new:ObjOk X.prog X.w (upd H a o) h' a o):
  Inv X pins σ (upd H a o) { s with heap:=h',toks:=t' }:=I.un (Un.laid k hp (I.hok.fresh hp)) (I.hok.laid k hp new)
theorem Inv.write{x e:Addr}{o:HO}{t':Nat}(I:Inv X pins σ H s)(mu:Mut (H x))(he:e=x\/H e=some (.own x))(k:∀b u,b≠e->s.heap.get? b=some u->h'.get? b=some u)(heo:∃u,h'.get? e=some u)
  (new:ObjOk X.prog X.w (upd H x o) h' x o):Inv X pins σ (upd H x o) { s with heap:=h',toks:=t' }:=I.un (Un.write mu he k heo) (I.hok.write mu he k heo new)
theorem Inv.pins_of{pins':List (Addr×Obj)}(I:Inv X pins σ H s)(h:∀p∈pins',s.heap.get? p.1=some p.2/\H p.1=none/\p.1≠X.env.locals/\p.1∉X.fs/\∀v,p.2.data≠.cell v):Inv X pins' σ H s:=
 ⟨I.ok,I.os,I.bare,I.base,I.loc,I.cell,I.free,I.freeC,λp hp=>(wD.mp hp).elim (λz=>I.pin p (wE _ z)) (h p),I.hok,I.len⟩
theorem nodup_ix{N:List Str}(hN:N.Nodup){i j:Nat}{x:Str}(a:N[i]?=some x)(b:N[j]?=some x):i=j:=by
 obtain⟨h1,e1⟩:=List.getElem?_eq_some_iff.mp a;obtain⟨h2,e2⟩:=List.getElem?_eq_some_iff.mp b;exact(List.getElem_inj hN).mp (e1.trans e2.symm)
theorem Zh{M:Model}{A:Around}{E:Value->Shared->Prop}{i:Nat}{x:Str}{v:V}{u:Value}{Q:Unit->Shared->Prop}(I:Inv X pins σ H s)(hN:X.N.Nodup)(hi:X.N[i]?=some x)(hx:Loc X.env.scope x)(r:RelV v u)
  (h:∀s',Inv X pins (σ.set i (some v)) H s'->(∃a,Heap.SameBut a s.heap s'.heap/\(a=X.env.locals\/X.env.cells.lookup x=some a))->Q () s') (hf:X.fn x=true\/X.env.scope.names.lookup x=some .local:=by first|exact .inl rfl|exact .inr rfl|assumption):wpAny M A (storeName X.env x u) Q E s:=by
 obtain⟨m,hn,hl⟩:=id I.loc;have hcls:(X.env.scope.kind==.class||(X.env.scope.kind==.module&&X.env.locals != X.env.globals))=false:=by rw[I.ok.kind];rfl
 have hiσ:i<σ.length:=by rw[I.len];exact(List.getElem?_eq_some_iff.mp hi).1
 have cne:=I.cne;have tracked:∀{a:Addr}{h':Heap},(∃o,s.heap.get? a=some o/\H a=none)->Heap.SameBut a s.heap h'->HOk X.prog X.w H h':=λ{a h'} ha hs b ob e=>by
  obtain⟨_,_,hfree⟩:=ha;refine(I.hok b ob e).stay (λc w' hc q=>(hs.2 c ?_).trans q) (λ_ q=>q) λ_ _ q=>q;rintro rfl;rcases hc with rfl|hc
  ·rw[hfree]at e;cases e
  ·rw[hfree]at hc;cases hc
 rcases hx with hk|hk
 ·refine wpAny_storeName_local hk hn (λh' hn' hs=>?_) hcls;obtain⟨oL,_,_,hoL,_⟩:=id hn;refine h _ ⟨I.ok,I.os,I.bare,⟨λb o e n hb hx=>?_,λb o e n hb hx=>?_,I.base.free,λb o e hx=>?_,I.base.tups,I.base.frzs,I.base.tbls⟩,⟨_,hn',λj y v' e1 e2 e3=>?_⟩,λy c e=>?_,I.free,I.freeC,λp hp=>?_,tracked ⟨oL,hoL,I.free⟩ hs,by simpa using I.len⟩ ⟨_,hs,.inl rfl⟩
  ·exact(hs.2 b (wJ (wC (Heap.lt_size e) I.ok.above))).trans (I.base.keep b o e n hb hx)
  ·obtain⟨sl,e1⟩:=I.base.slot b o e n hb hx;exact⟨sl,(hs.2 b (wJ (wC (Heap.lt_size e) I.ok.above))).trans e1⟩
  ·obtain⟨o',e1⟩:=I.base.there b o e hx;exact⟨o',(hs.2 b (wJ (wC (Heap.lt_size e) I.ok.above))).trans e1⟩
  ·by_cases hj:j=i
   ·subst hj;rw[hi]at e1;cases e1;rw[wN hiσ]at e2;cases e2;exact⟨u,r,.inl ⟨hk,by simp⟩⟩
   ·rw[wI (Ne.symm hj)]at e2;obtain⟨u',r',q⟩:=hl j y v' e1 e2 e3;refine⟨u',r',?_⟩;rcases q with⟨k,e⟩|⟨k,c,e,z⟩
    ·refine .inl ⟨k,?_⟩;have:y≠x:=λe=>hj (nodup_ix hN e1 (e ▸ hi));simp[this,e]
    ·exact .inr ⟨k,c,e,z.sameBut hs (cne y c e)⟩
  ·obtain⟨w',z⟩:=I.cell y c e;exact⟨w',z.sameBut hs (cne y c e)⟩
  ·obtain⟨e,n,ne,nf,d⟩:=I.pin p hp;exact⟨(hs.2 p.1 ne).trans e,n,ne,nf,d⟩
 ·have hfn:X.fn x=true:=by
   rcases hf with z|z
   ·exact z
   ·rw[z]at hk;cases hk
  obtain⟨c,hc⟩:=I.ok.has x (.inl hk);obtain⟨w',z⟩:=I.cell x c hc;refine wpAny_storeName_cell I.ok.kind hk hc z (λh' hc' hs=>?_);obtain⟨oc,hoc,hocd⟩:=id z;refine h { s with heap:=h' } ⟨I.ok,I.os,I.bare,⟨λb o e n hb hx=>?_,λb o e n hb hx=>?_,I.base.free,λb o e hx=>?_,I.base.tups,I.base.frzs,I.base.tbls⟩,⟨m,hn.sameBut hs (Ne.symm (cne x c hc)),λj y v' e1 e2 e3=>?_⟩,λy c' e=>?_,I.free,I.freeC,λp hp=>?_,tracked ⟨oc,hoc,I.freeC x c hc⟩ hs,by simpa using I.len⟩ ⟨c,hs,.inr hc⟩
  ·exact(hs.2 b (wJ (wC (Heap.lt_size e) (I.ok.cab x c hfn hc)))).trans (I.base.keep b o e n hb hx)
  ·obtain⟨sl,e1⟩:=I.base.slot b o e n hb hx;exact⟨sl,(hs.2 b (wJ (wC (Heap.lt_size e) (I.ok.cab x c hfn hc)))).trans e1⟩
  ·obtain⟨o',e1⟩:=I.base.there b o e hx;exact⟨o',(hs.2 b (wJ (wC (Heap.lt_size e) (I.ok.cab x c hfn hc)))).trans e1⟩
  ·by_cases hj:j=i
   ·subst hj;rw[hi]at e1;cases e1;rw[wN hiσ]at e2;cases e2;exact⟨u,r,.inr ⟨.inl hk,c,hc,hc'⟩⟩
   ·rw[wI (Ne.symm hj)]at e2;obtain⟨u',r',q⟩:=hl j y v' e1 e2 e3;refine⟨u',r',?_⟩;rcases q with q|⟨k,c',e,z'⟩
    ·exact .inl q
    ·refine .inr ⟨k,c',e,z'.sameBut hs ?_⟩;rintro rfl;exact hj (nodup_ix hN e1 (I.ok.inj _ _ _ e hc ▸ hi))
  ·by_cases hcc:c'=c
   ·subst hcc;exact⟨_,hc'⟩
   ·obtain⟨w2,z2⟩:=I.cell y c' e;exact⟨w2,z2.sameBut hs hcc⟩
  ·obtain⟨e,n,ne,nf,d⟩:=I.pin p hp;refine⟨(hs.2 p.1 ?_).trans e,n,ne,nf,d⟩;intro q;rw[q,hoc]at e;have q':oc=p.2:=Option.some.inj e;exact d w' (by rw[<-q'];exact hocd)
theorem store_ok{M:Model}{A:Around}{E:Value->Shared->Prop}{i:Nat}{x:Str}{v:V}{u:Value}{Q:Unit->Shared->Prop}(I:Inv X pins σ H s)(hN:X.N.Nodup)(hi:X.N[i]?=some x)(hx:Loc X.env.scope x)(r:RelV v u)
  (h:∀s',Inv X pins (σ.set i (some v)) H s'->Q () s') (hf:X.fn x=true\/X.env.scope.names.lookup x=some .local:=by first|exact .inl rfl|exact .inr rfl|assumption):wpAny M A (storeName X.env x u) Q E s:=
 Zh I hN hi hx r (λs' I' _=>h s' I') hf
theorem Inv.call'{s':Shared}{ch:List Addr}(I:Inv X pins σ H s)(ho:s'.os=s.os)(u:Un (frs X.stack) ch H H' s.heap s'.heap)(hok:HOk X.prog X.w H' s'.heap)(hg:AllBare s'.gens)
  (hch:∀b∈ch,(b∈X.ex\/X.s₀.heap.objs.size<=b)/\b≠X.env.locals/\(∀x c,X.env.cells.lookup x=some c->c≠b)/\∀p∈X.pn++pins,p.1≠b):Inv X pins σ H' s':=by
 obtain⟨h',g',d',t',o'⟩:=s';have e:o'=s.os:=ho;subst e;exact I.call (g':=g') (t':=t') (d':=d') u hok hg hch
end
noncomputable abbrev XK:=Value->Option Addr->Hp->Prop
noncomputable abbrev St:=List (Option V)
noncomputable abbrev VK:=V->Hp->Prop
noncomputable abbrev TE:=St->Hp->VK->Prop
noncomputable abbrev TT:=St->Hp->(Bool->Hp->Prop)->Prop
noncomputable abbrev TA:=St->Hp->(List V->Hp->Prop)->Prop
structure JH where
 nx:St->Hp->Prop
 rt:VK
 bk:St->Hp->Prop:=λ_ _=>False
 ct:St->Hp->Prop:=λ_ _=>False
noncomputable abbrev TS:=JH->St->Hp->Prop
def EP(X:Cx)(pins:List (Addr×Obj))(σ:St)(Q:VK)(u:Value)(s':Shared):Prop:=∃v H',Inv X pins σ H' s'/\RelV v u/\Q v H'
def TP(X:Cx)(pins:List (Addr×Obj))(σ:St)(Q:Bool->Hp->Prop)(b:Bool)(s':Shared):Prop:=∃H',Inv X pins σ H' s'/\Q b H'
def AP(X:Cx)(pins:List (Addr×Obj))(σ:St)(Q:List V->Hp->Prop)(us:List Value)(s':Shared):Prop:=∃vs H',Inv X pins σ H' s'/\Vals vs us/\Q vs H'
def SP(X:Cx)(pins:List (Addr×Obj))(D:JH)(f:Flow)(s':Shared):Prop:=
 match f with
 | .next=>∃σ' H',Inv X pins σ' H' s'/\D.nx σ' H'
 | .brk=>∃σ' H',Inv X pins σ' H' s'/\D.bk σ' H'
 | .cont=>∃σ' H',Inv X pins σ' H' s'/\D.ct σ' H'
 | .ret u=>∃v σ' H',Inv X pins σ' H' s'/\RelV v u/\D.rt v H'
def PE(X:Cx)(e:Expr)(t:TE):Prop:=
 ∀(pins:List (Addr×Obj)) (s:Shared) (σ:St) (H:Hp) (Q:VK),Inv X pins σ H s->t σ H Q->wpAny (model X.prog X.w) X.A (eval e X.env) (EP X pins σ Q) X.xe s
def PT(X:Cx)(e:Expr)(t:TT):Prop:=
 ∀(pins:List (Addr×Obj)) (s:Shared) (σ:St) (H:Hp) (Q:Bool->Hp->Prop),Inv X pins σ H s->t σ H Q->wpAny (model X.prog X.w) X.A (isTrue e X.env (eval e X.env)) (TP X pins σ Q) X.xe s
def PW(X:Cx)(e:Expr)(t:TT):Prop:=
 ∀(Qv:Sem Value) (pins:List (Addr×Obj)) (s:Shared) (σ:St) (H:Hp) (Q:Bool->Hp->Prop),Inv X pins σ H s->t σ H Q->wpAny (model X.prog X.w) X.A (isTrue e X.env Qv) (TP X pins σ Q) X.xe s
theorem PW.pt{X:Cx}{e:Expr}{t:TT}(h:PW X e t):PT X e t:=h _
def PA(X:Cx)(es:List Expr)(t:TA):Prop:=
 ∀(pos:Pos) (pins:List (Addr×Obj)) (s:Shared) (σ:St) (H:Hp) (Q:List V->Hp->Prop),Inv X pins σ H s->t σ H Q->wpAny (model X.prog X.w) X.A (spliced (backTo pos (starEach es X.env))) (AP X pins σ Q) X.xe s
def PS(X:Cx)(st:Stmt)(t:TS):Prop:=
 ∀(pins:List (Addr×Obj)) (s:Shared) (σ:St) (H:Hp) (D:JH),Inv X pins σ H s->t D σ H->wpAny (model X.prog X.w) X.A (exec st X.env) (SP X pins D) X.xe s
def PSs(X:Cx)(st:List Stmt)(t:TS):Prop:=
 ∀(pins:List (Addr×Obj)) (s:Shared) (σ:St) (H:Hp) (D:JH),Inv X pins σ H s->t D σ H->wpAny (model X.prog X.w) X.A (execs st X.env) (SP X pins D) X.xe s
theorem thn{α:Type}{t:Sem α}{Q Q':α->Shared->Prop}{M:Model}{A:Around}{E:Value->Shared->Prop}{s:Shared}(h:wpAny M A t Q E s)(hQ:∀a s,Q a s->Q' a s):wpAny M A t Q' E s:=wpAny_mono h hQ λ_ _ x=>x
section
variable{X:Cx}
theorem bin{a b:Expr}{ta tb:TE}(ha:PE X a ta)(hb:PE X b tb){pins:List (Addr×Obj)}{s:Shared}{σ:St}{H:Hp}{R:V->V->Hp->Prop}(I:Inv X pins σ H s)(h:ta σ H λx H1=>tb σ H1 λy H2=>R x y H2)
  {α:Type}{Q:α->Shared->Prop}{f:Value->Value->Sem α}
  (hf:∀v u s2 x y H2,Inv X pins σ H2 s2->RelV x v->RelV y u->R x y H2->wpAny (model X.prog X.w) X.A (f v u) Q X.xe s2):
  wpAny (model X.prog X.w) X.A (eval a X.env) (λv s₁=>wpAny (model X.prog X.w) X.A (eval b X.env) (λu s₂=>wpAny (model X.prog X.w) X.A (f v u) Q X.xe s₂) X.xe s₁) X.xe s:=by
 refine thn (ha pins s σ H _ I h) λv s1 ⟨x,H1,I1,r1,q1⟩=>?_;refine thn (hb pins s1 σ H1 _ I1 q1) λu s2 ⟨y,H2,I2,r2,q2⟩=>?_;exact hf v u s2 x y H2 I2 r1 r2 q2
noncomputable def qEy(i:Nat):TE:=λσ H Q=>∃v,σ[i]?=some (some v)/\Q v H
noncomputable def tC(v:V):TE:=λ_ H Q=>Q v H
theorem pe_var{i:Nat}{x:Str}{pos:Pos}(hN:X.N[i]?=some x)(hv:Vis X.env.scope x)(hd:(x==("__debug__":Str))=false:=by decide)(hcd:(x==("__classdict__":Str))=false:=by decide):PE X (.Name x pos) (qEy i):=by
 intro pins s σ H Q I h;obtain⟨v,e,h⟩:=h;obtain⟨m,hn,hl⟩:=I.loc;obtain⟨u,r,l⟩:=hl i x v hN e hv;have fin:EP X pins σ Q u s:=⟨v,H,I,r,h⟩
 rcases l with⟨hk,hm⟩|⟨hk,c,hc,hcell⟩
 ·exact wpAny_Name (wpAny_loadName_local I.ok.kind hk hn hm fin) hd
 ·rcases hk with hk|hk
  ·exact wpAny_Name (wpAny_loadName_cell I.ok.kind hk hc hcell fin) hd
  ·exact wpAny_Name (wpAny_loadName_free I.ok.kind hk hc hcell fin hcd) hd
theorem pe_int {i j pos}:PE X (.Constant (.int i) j pos) (tC (.int i)):=λ_ _ _ H _ I h=>wpAny_Constant_int ⟨.int i,H,I.tok _,⟨_,rfl⟩,h⟩
theorem pe_bl {b j pos}:PE X (.Constant (.bool b) j pos) (tC (.bl b)):=λ_ _ _ H _ I h=>Constant_bool ⟨.bl b,H,I,rfl,h⟩
theorem pe_non {j pos}:PE X (.Constant .none j pos) (tC .non):=λ_ _ _ H _ I h=>Constant_none ⟨.non,H,I,rfl,h⟩
theorem pe_str {x j pos}:PE X (.Constant (.str x) j pos) (tC (.str x)):=λ_ _ _ H _ I h=>Calls.Constant_str ⟨.str x,H,I.tok _,⟨_,rfl⟩,h⟩
def Gl(X:Cx)(x:Str):Prop:=X.env.kindOf x=some .globalImplicit
theorem ld_glob{E:Value->Shared->Prop}{pins:List (Addr×Obj)}{s:Shared}{σ:St}{H:Hp}{x:Str}{u:Value}{pos:Pos}{Q:Value->Shared->Prop}(I:Inv X pins σ H s)(hg:Gl X x)(hm:X.mg x=some u)(h:Q u s)
  (hd:(x==("__debug__":Str))=false:=by decide):wpAny (model X.prog X.w) X.A (eval (.Name x pos) X.env) Q E s:=
 Calls.Name_function_global I.ok.kind hg (Calls.loadGlobal_global (by rw[I.ok.glob];exact I.mod.glob.keeps I.bk) hm h) hd
theorem ld_blt{E:Value->Shared->Prop}{pins:List (Addr×Obj)}{s:Shared}{σ:St}{H:Hp}{x:Str}{u:Value}{pos:Pos}{Q:Value->Shared->Prop}(I:Inv X pins σ H s)(hg:Gl X x)(hm:X.mg x=none)(hv:bootBuiltins x=some u)(h:Q u s)
  (hn:x≠"__name__":=by decide) (hd:(x==("__debug__":Str))=false:=by decide):wpAny (model X.prog X.w) X.A (eval (.Name x pos) X.env) Q E s:=by
 obtain⟨mb,h1,h2⟩:=I.mod.blt;exact Calls.Name_function_global I.ok.kind hg (Calls.loadGlobal_builtin (by rw[I.ok.glob];exact I.mod.glob.keeps I.bk) hm (by rw[I.ok.blt];exact h1.keeps I.bk) ((h2 x hn).trans hv) h) hd
theorem pe_glob{x:Str}{v:V}{u:Value}{pos:Pos}(hg:Gl X x)(hm:X.mg x=some u)(r:RelV v u)(hd:(x==("__debug__":Str))=false:=by decide):PE X (.Name x pos) (tC v):=
 λ_ _ _ H _ I h=>ld_glob I hg hm ⟨v,H,I,r,h⟩ hd
theorem pe_bltn{x:Str}{v:V}{u:Value}{pos:Pos}(hg:Gl X x)(hm:X.mg x=none)(hv:bootBuiltins x=some u)(r:RelV v u)(hn:x≠"__name__":=by decide)(hd:(x==("__debug__":Str))=false:=by decide):PE X (.Name x pos) (tC v):=
 λ_ _ _ H _ I h=>ld_blt I hg hm hv ⟨v,H,I,r,h⟩ hn hd
variable{a b:Expr}{ta tb:TE}{pos:Pos}
def PC(X:Cx)(op:CmpOp)(a b:Expr)(t:TE):Prop:=
 ∀(pins:List (Addr×Obj)) (s:Shared) (σ:St) (H:Hp) (Q:VK),Inv X pins σ H s->t σ H Q ->
  wpAny (model X.prog X.w) X.A (eval a X.env) (λv s₁=>wpAny (model X.prog X.w) X.A (eval b X.env) (λu s₂=>wpAny (model X.prog X.w) X.A (compareOp op v u) (EP X pins σ Q) X.xe s₂) X.xe s₁) X.xe s
noncomputable def tB(t:TE):TT:=λσ H Q=>t σ H λx H1=>∃c,x=.bl c/\Q c H1
theorem a8{op:CmpOp}{t:TE}(h:PC X op a b t)(h1:behindInMarks op b=false:=by first|exact nobehind _ (by decide) (by decide)|rfl):PE X (.Compare a [op] [b] pos) t:=λpins s σ H Q I hw=>wpAny_Compare1 (h pins s σ H Q I hw) h1
theorem pt_val{e:Expr}{t:TE}(h:PE X e t)(he:∀Qv,isTrue e X.env Qv=(do let v <- Qv;standAt e.pos;holding [v] (truthy v)):=by intro _;rfl):PT X e (tB t):=by
 intro pins s σ H Q I hw;refine isTrue_plain (thn (h pins s σ H _ I hw) λv s1 ⟨x,H1,I1,r1,q1⟩=>?_) (he _);obtain⟨d,rfl,q⟩:=q1;cases r1;exact vH ⟨H1,I1,q⟩
variable{tA tB':TT}{jO:List Expr}
noncomputable def tAnd(t u:TT):TT:=λσ H Q=>t σ H λc H1=>if c=true then u σ H1 Q else Q false H1
noncomputable def tOr(t u:TT):TT:=λσ H Q=>t σ H λc H1=>if c=true then Q true H1 else u σ H1 Q
noncomputable def qEu(t:TT):TT:=λσ H Q=>t σ H λc H1=>Q (!c) H1
theorem pw_and1(ha:PT X a tA):PW X (.BoolOp .And [a] pos) tA:=by
 intro wh pins s σ H Q I h;refine isTrue_and (thn (ha pins s σ H Q I h) λc s1 e=>?_);cases c with
 |true=>exact isTrue_and_nil e
 |false=>exact e
theorem pw_or1(ha:PT X a tA):PW X (.BoolOp .Or [a] pos) tA:=by
 intro wh pins s σ H Q I h;refine isTrue_or (thn (ha pins s σ H Q I h) λc s1 e=>?_);cases c with
 |false=>exact isTrue_or_nil e
 |true=>exact e
theorem pw_and(ha:PT X a tA)(hb:PW X (.BoolOp .And (b::jO) pos) tB'):PW X (.BoolOp .And (a::b::jO) pos) (tAnd tA tB'):=by
 intro wh pins s σ H Q I h;refine isTrue_and (thn (ha pins s σ H _ I h) λc s1 ⟨H1,I1,q1⟩=>?_);cases c with
 |true=>exact hb wh pins s1 σ H1 Q I1 q1
 |false=>exact⟨H1,I1,q1⟩
theorem pw_or(ha:PT X a tA)(hb:PW X (.BoolOp .Or (b::jO) pos) tB'):PW X (.BoolOp .Or (a::b::jO) pos) (tOr tA tB'):=by
 intro wh pins s σ H Q I h;refine isTrue_or (thn (ha pins s σ H _ I h) λc s1 ⟨H1,I1,q1⟩=>?_);cases c with
 |true=>exact⟨H1,I1,q1⟩
 |false=>exact hb wh pins s1 σ H1 Q I1 q1
theorem pt_not(ha:PT X a tA):PT X (.UnaryOp .Not a pos) (qEu tA):=by
 intro pins s σ H Q I h;exact isTrue_not (ha pins s σ H (λc H1=>Q (!c) H1) I h)
noncomputable def tAndV(ta tb:TE):TE:=λσ H Q=>ta σ H λx H1=>∃c,x=.bl c/\if c=true then tb σ H1 Q else Q (.bl false) H1
noncomputable def tOrV(ta tb:TE):TE:=λσ H Q=>ta σ H λx H1=>∃c,x=.bl c/\if c=true then Q (.bl true) H1 else tb σ H1 Q
noncomputable def qCj(ta:TE):TE:=λσ H Q=>ta σ H λx H1=>∃c,x=.bl c/\Q (.bl (!c)) H1
theorem pe_one {op}{t:TE}(h:PE X a t):PE X (.BoolOp op [a] pos) t:=λpins s σ H Q I hw=>BoolOp_one (h pins s σ H Q I hw)
theorem pe_and(ha:PE X a ta)(hb:PE X (.BoolOp .And (b::jO) pos) tb):PE X (.BoolOp .And (a::b::jO) pos) (tAndV ta tb):=by
 intro pins s σ H Q I h;refine BoolOp_and (thn (ha pins s σ H _ I h) λv s1 ⟨x,H1,I1,r1,q1⟩=>?_);obtain⟨c,rfl,q1⟩:=q1;cases r1;refine vH ?_;cases c with
 |true=>exact hb pins s1 σ H1 Q I1 q1
 |false=>exact⟨.bl false,H1,I1,rfl,q1⟩
theorem pe_or(ha:PE X a ta)(hb:PE X (.BoolOp .Or (b::jO) pos) tb):PE X (.BoolOp .Or (a::b::jO) pos) (tOrV ta tb):=by
 intro pins s σ H Q I h;refine BoolOp_or (thn (ha pins s σ H _ I h) λv s1 ⟨x,H1,I1,r1,q1⟩=>?_);obtain⟨c,rfl,q1⟩:=q1;cases r1;refine vH ?_;cases c with
 |false=>exact hb pins s1 σ H1 Q I1 q1
 |true=>exact⟨.bl true,H1,I1,rfl,q1⟩
theorem pe_not(ha:PE X a ta):PE X (.UnaryOp .Not a pos) (qCj ta):=by
 intro pins s σ H Q I h;refine UnaryOp_ (thn (ha pins s σ H _ I h) λv s1 ⟨x,H1,I1,r1,q1⟩=>?_);obtain⟨c,rfl,q1⟩:=q1;cases r1;exact not_of (vH ⟨.bl (!c),H1,I1,rfl,q1⟩)
noncomputable def tIf(t:TT)(ta tb:TE):TE:=λσ H Q=>t σ H λc H1=>if c=true then ta σ H1 Q else tb σ H1 Q
theorem pe_ifExp{c:Expr}(hc:PT X c tA)(ha:PE X a ta)(hb:PE X b tb):PE X (.IfExp c a b pos) (tIf tA ta tb):=by
 intro pins s σ H Q I h;refine wpAny_IfExp (thn (hc pins s σ H _ I h) λd s1 ⟨H1,I1,q1⟩=>?_);cases d with
 |true=>exact ha pins s1 σ H1 Q I1 q1
 |false=>exact hb pins s1 σ H1 Q I1 q1
end
def SqL(K:PySem.W.Frag)(H:Hp)(a:Addr)(xs:List V):Prop:=
 Rd H a (.lst xs)\/
  ∃(o:Obj) (its:Array Value) (n:Nat),K.lookup a=some o/\o.cls=.type "list"/\o.dict=none/\o.data=.seq its n/\its.size<=sizeLine/\Vals xs its.toList
def SqT(K:PySem.W.Frag)(H:Hp)(a:Addr)(xs:List V):Prop:=
 Rd H a (.tup xs)\/
  ∃(o:Obj) (its:Array Value) (n:Nat),K.lookup a=some o/\o.cls=.type "tuple"/\o.data=.seq its n/\its.size<=sizeLine/\Vals xs its.toList
noncomputable def qE2:Value->Option V
 | .none=>some .non
 | .bool b=>some (.bl b)
 | .int i _=>some (.int i)
 | .str x _=>some (.str x)
 | .bytes b _=>some (.byt b)
 | .float b _=>some (.flt b)
 | .ref a=>some (.ref a)
 | .type n=>some (.ty n)
 |_=>none
theorem RelV.abs{x:V}{u:Value}(r:RelV x u):qE2 u=some x:=by
 cases x with
 |non=>cases r;rfl
 |bl _=>cases r;rfl
 |int _=>obtain⟨t,rfl⟩:=r;rfl
 |str _=>obtain⟨t,rfl⟩:=r;rfl
 |byt _=>obtain⟨t,rfl⟩:=r;rfl
 |flt _=>obtain⟨t,rfl⟩:=r;rfl
 |ref _=>cases r;rfl
 |ty _=>cases r;rfl
theorem RelV.inj{x y:V}{u:Value}(r:RelV x u)(q:RelV y u):x=y:=Option.some.inj (r.abs.symm.trans q.abs)
theorem Vals.inj:∀{xs ys:List V}{us:List Value},Vals xs us->Vals ys us->xs=ys
 |_,_,_,.nil,.nil=>rfl
 |_,_,_,.cons r t,.cons r' t'=>by rw[r.inj r',Vals.inj t t']
section
variable{X:Cx}{pins:List (Addr×Obj)}{σ:St}{H:Hp}{s:Shared}{a:Addr}{xs ys:List V}
theorem Inv.list(I:Inv X pins σ H s)(h:SqL X.K H a xs):∃its:List Value,Vals xs its/\PlainL s.heap a its.toArray/\xs.length<=sizeLine:=by
 rcases h with h|⟨o,its,n,hk,hc,hd,hs,hz,r⟩
 ·obtain⟨z,its,n,r,e⟩:=h.ok I.hok;exact⟨its,r,⟨_,n,e,rfl,rfl,rfl⟩,z⟩
 ·refine⟨its.toList,r,⟨o,n,I.kIn a o hk,hc,hd,by simpa using hs⟩,?_⟩;have e:=r.length;simp only[Array.length_toList]at e;omega
theorem Inv.tuple(I:Inv X pins σ H s)(h:SqT X.K H a xs):∃its:List Value,Vals xs its/\IsTup s.heap a its.toArray/\xs.length<=sizeLine:=by
 rcases h with h|⟨o,its,n,hk,hc,hs,hz,r⟩
 ·obtain⟨z,its,r,p⟩:=h.ok I.hok;exact⟨its,r,p,z⟩
 ·refine⟨its.toList,r,⟨o,I.kIn a o hk,hc,n,by simpa using hs⟩,?_⟩;have e:=r.length;simp only[Array.length_toList]at e;omega
theorem Inv.list_inj(I:Inv X pins σ H s)(h:SqL X.K H a xs)(h':SqL X.K H a ys):xs=ys:=by
 obtain⟨its,r,⟨o,n,e,_,_,d⟩,_⟩:=I.list h;obtain⟨its',r',⟨o',n',e',_,_,d'⟩,_⟩:=I.list h';rw[e]at e';cases e';rw[d]at d';injection d' with d1 _;have:its=its':=by simpa using congrArg Array.toList d1
 subst this;exact r.inj r'
theorem Inv.tuple_inj(I:Inv X pins σ H s)(h:SqT X.K H a xs)(h':SqT X.K H a ys):xs=ys:=by
 obtain⟨its,r,⟨o,e,_,n,d⟩,_⟩:=I.tuple h;obtain⟨its',r',⟨o',e',_,n',d'⟩,_⟩:=I.tuple h';rw[e]at e';cases e';rw[d]at d';injection d' with d1 _;have:its=its':=by simpa using congrArg Array.toList d1
 subst this;exact r.inj r'
end
noncomputable abbrev Cx.wish(X:Cx)(E:Value->Shared->Prop):Cx:={ X with xe:=E }
noncomputable abbrev Cx.nox(X:Cx):Cx:=X.wish λ_ _=>False
theorem Cx.Ok.wish{X:Cx}(ok:X.Ok)(E:Value->Shared->Prop):(X.wish E).Ok:=
 ⟨ok.mod,ok.kind,ok.glob,ok.blt,ok.above,ok.inj,ok.has,ok.cab,ok.hd,ok.frames,ok.stk,ok.exf,ok.bs,ok.bsz,ok.noex,ok.exfs,ok.funs,ok.frf⟩
theorem Cx.Ok.unwish{X:Cx}{E:Value->Shared->Prop}(ok:(X.wish E).Ok):X.Ok:=
 ⟨ok.mod,ok.kind,ok.glob,ok.blt,ok.above,ok.inj,ok.has,ok.cab,ok.hd,ok.frames,ok.stk,ok.exf,ok.bs,ok.bsz,ok.noex,ok.exfs,ok.funs,ok.frf⟩
section
variable{X:Cx}{pins:List (Addr×Obj)}{σ:St}{H:Hp}{s:Shared}{E:Value->Shared->Prop}
theorem Inv.wish(I:Inv X pins σ H s)(E:Value->Shared->Prop):Inv (X.wish E) pins σ H s:=⟨I.ok.wish E,I.os,I.bare,I.base,I.loc,I.cell,I.free,I.freeC,I.pin,I.hok,I.len⟩
theorem Inv.unwish(I:Inv (X.wish E) pins σ H s):Inv X pins σ H s:=⟨I.ok.unwish,I.os,I.bare,I.base,I.loc,I.cell,I.free,I.freeC,I.pin,I.hok,I.len⟩
theorem SP.unwish{D:JH}{f:Flow}{s':Shared}(h:SP (X.wish E) pins D f s'):SP X pins D f s':=by
 cases f with
 |next=>obtain⟨σ',H',I,q⟩:=h;exact⟨σ',H',I.unwish,q⟩
 |brk=>obtain⟨σ',H',I,q⟩:=h;exact⟨σ',H',I.unwish,q⟩
 |cont=>obtain⟨σ',H',I,q⟩:=h;exact⟨σ',H',I.unwish,q⟩
 |ret u=>obtain⟨v,σ',H',I,r,q⟩:=h;exact⟨v,σ',H',I.unwish,r,q⟩
theorem PSs.nox{st:List Stmt}{t:TS}(h:PSs X.nox st t):PSs X st t:=λpins s σ H D I hw=>
 wpAny_mono (h pins s σ H D (I.wish _) hw) (λ_ _ q=>q.unwish) λ_ _ z=>False.elim z
end
section
variable{X:Cx}{st:Stmt}{jO:List Stmt}{t u:TS}{e:Expr}{te:TE}{pos:Pos}
noncomputable def qDR:TS:=λD σ H=>D.nx σ H
noncomputable def qFc(t u:TS):TS:=λD σ H=>t { D with nx:=u D } σ H
theorem pss_nil:PSs X [] qDR:=λ_ _ σ H _ I h=>wpAny_execs_nil ⟨σ,H,I,h⟩
theorem pss_cons(h1:PS X st t)(h2:PSs X jO u):PSs X (st::jO) (qFc t u):=by
 intro pins s σ H D I h;refine wpAny_execs_cons (thn (h1 pins s σ H { D with nx:=u D } I h) λf s1 q=>?_);cases f with
 |next=>
  obtain⟨σ',H',I',q⟩:=q;exact h2 pins s1 σ' H' D I' q
 |ret v=>exact q
 |brk=>exact q
 |cont=>exact q
theorem pss_one(h1:PS X st t):PSs X [st] t:=by
 intro pins s σ H D I h;refine wpAny_execs_cons (thn (h1 pins s σ H D I h) λf s1 q=>?_);cases f with
 |next=>exact wpAny_execs_nil q
 |ret v=>exact q
 |brk=>exact q
 |cont=>exact q
theorem Inv.quiet{pins:List (Addr×Obj)}{σ:St}{H:Hp}{s:Shared}(I:Inv X pins σ H s):interactive X.env=false:=by simp[interactive,I.ok.kind]
noncomputable def qCn(te:TE):TS:=λD σ H=>te σ H λ_ H1=>D.nx σ H1
theorem ps_expr(he:PE X e te)(hs:swapsWith e none pos.line X.env=pure false:=by rfl):PS X (.Expr e pos) (qCn te):=by
 intro pins s σ H D I h;exact wpAny_Expr_any (thn (he pins s σ H _ I h) λv s1 ⟨x,H1,I1,r1,q1⟩=>⟨σ,H1,I1,q1⟩) I.quiet hs
noncomputable def qFi(te:TE):TS:=λD σ H=>te σ H D.rt
theorem ps_ret(he:PE X e te):PS X (.Return (some e) pos) (qFi te):=by
 intro pins s σ H D I h;exact wpAny_Return_some (thn (he pins s σ H _ I h) λv s1 ⟨x,H1,I1,r1,q1⟩=>⟨x,σ,H1,I1,r1,q1⟩)
noncomputable def qFY(c:TT)(t u:TS):TS:=λD σ H=>c σ H λb H1=>if b=true then t D σ H1 else u D σ H1
theorem ps_if{c:Expr}{a b:List Stmt}{tc:TT}(hc:PT X c tc)(ha:PSs X a t)(hb:PSs X b u):PS X (.If c a b pos) (qFY tc t u):=by
 intro pins s σ H D I h;refine wpAny_If (thn (hc pins s σ H _ I h) λd s1 ⟨H1,I1,q1⟩=>?_);cases d with
 |true=>exact ha pins s1 σ H1 D I1 q1
 |false=>exact hb pins s1 σ H1 D I1 q1
end
noncomputable abbrev TG:=V->St->Hp->(St->Hp->Prop)->Prop
noncomputable abbrev TGs:=List V->St->Hp->(St->Hp->Prop)->Prop
def PG(X:Cx)(target:Expr)(t:TG):Prop:=
 ∀(pins:List (Addr×Obj)) (s:Shared) (σ:St) (H:Hp) (v:V) (u:Value) (Q:St->Hp->Prop),Inv X pins σ H s->RelV v u->t v σ H Q ->
  wpAny (model X.prog X.w) X.A (assign target X.env u) (λ_ s'=>∃σ' H',Inv X pins σ' H' s'/\Q σ' H') X.xe s
def PGs(X:Cx)(ts:List Expr)(t:TGs):Prop:=
 ∀(pins:List (Addr×Obj)) (s:Shared) (σ:St) (H:Hp) (vs:List V) (us:List Value) (Q:St->Hp->Prop),Inv X pins σ H s->Vals vs us->t vs σ H Q ->
  wpAny (model X.prog X.w) X.A (assignInOrder ((assignEach ts X.env).map (·.2)) us) (λ_ s'=>∃σ' H',Inv X pins σ' H' s'/\Q σ' H') X.xe s
noncomputable abbrev TSet:=V->V->V->Hp->(Hp->Prop)->Prop
def PSet(X:Cx)(t:TSet):Prop:=
 ∀(pins:List (Addr×Obj)) (s:Shared) (σ:St) (H:Hp) (o i v:V) (ov iv u:Value) (Q:Hp->Prop),Inv X pins σ H s->RelV o ov->RelV i iv->RelV v u->t o i v H Q ->
  wpAny (model X.prog X.w) X.A (setItem ov iv u) (λ_ s'=>∃H',Inv X pins σ H' s'/\Q H') X.xe s
section
variable{X:Cx}{pos:Pos}
noncomputable def l9(i:Nat):TG:=λv σ H Q=>Q (σ.set i (some v)) H
theorem pg_name{i:Nat}{x:Str}(hN:X.N.Nodup)(hi:X.N[i]?=some x)(hx:Loc X.env.scope x)(hf:X.fn x=true\/X.env.scope.names.lookup x=some .local:=by first|exact .inl rfl|exact .inr rfl|assumption):PG X (.Name x pos) (l9 i):=by
 intro pins s σ H v u Q I r h;exact wpAny_assign_Name (store_ok I hN hi hx r (λs' I'=>⟨_,H,I',h⟩) hf)
noncomputable def qE8:TGs:=λvs σ H Q=>vs=[]/\Q σ H
noncomputable def qC8(t:TG)(u:TGs):TGs:=λvs σ H Q=>∃v r,vs=v::r/\t v σ H λσ' H'=>u r σ' H' Q
theorem pgs_nil:PGs X [] qE8:=by
 intro pins s σ H vs us Q I r h;obtain⟨e,h⟩:=h;subst e;cases r;exact assignInOrder_nil ⟨σ,H,I,h⟩
theorem pgs_cons{e:Expr}{es:List Expr}{t:TG}{u:TGs}(h1:PG X e t)(h2:PGs X es u)
  (hs:(assignEach (e::es) X.env).map (·.2)=assign e X.env::(assignEach es X.env).map (·.2):=by rfl):PGs X (e::es) (qC8 t u):=by
 intro pins s σ H vs us Q I r h;obtain⟨v,vr,e1,h⟩:=h;subst e1;cases r with
 |cons r rr=>
  rw[hs];refine assignInOrder_cons (thn (h1 pins s σ H _ _ _ I r h) λ_ s1 ⟨σ1,H1,I1,q1⟩=>?_);exact h2 pins s1 σ1 H1 _ _ Q I1 rr q1
noncomputable def qFW(K:PySem.W.Frag)(n:Nat)(t:TGs):TG:=λv σ H Q=>∃a xs,v=.ref a/\SqT K H a xs/\xs.length=n/\t xs σ H Q
theorem pg_tup{es:List Expr}{k:Nat}{t:TGs}{n:Nat}(hc:X.calm=true)(h:PGs X es t)
  (hn:(assignEach es X.env).length=n:=by rfl) (hst:(assignEach es X.env).findIdx? (·.1)=none:=by rfl):PG X (.Tuple es k pos) (qFW X.K n t):=by
 intro pins s σ H v u Q I r hw;obtain⟨a,xs,e1,hq,hl,hw⟩:=hw;subst e1;cases r;obtain⟨its,rv,ht,hz⟩:=I.tuple hq;refine assign_Tuple_tuple (I.ok.hd hc) ht (by simp[hn,<-hl,rv.length]) hst λh' hx=>?_;have I1:Inv X pins σ H { s with heap:=h' }:=I.kept (t':=s.toks) λb o e=>hx b o (wJ (Heap.lt_size e)) e;exact h pins _ σ H xs _ Q I1 (by simpa using rv) hw
noncomputable def qFH(to ti:TE)(t:TSet):TG:=λv σ H Q=>to σ H λo H1=>ti σ H1 λi H2=>t o i v H2 λH3=>Q σ H3
theorem pg_sub{o i:Expr}{to ti:TE}{t:TSet}(ho:PE X o to)(hi:PE X i ti)(hs:PSet X t)
  (ha:∀v,assign (.Subscript o i pos) X.env v=(do
   let ov <- holding [v] (eval o X.env)
   let iv <- holding [v,ov] (eval i X.env)
   standAt pos
   holding [v,ov,iv] (setItem ov iv v)
   release [v,ov,iv] []):=by intro _;rfl):PG X (.Subscript o i pos) (qFH to ti t):=by
 intro pins s σ H v u Q I r h;rw[ha];refine vB (wpAny_holding (thn (ho pins s σ H _ I h) λov s1 ⟨x,H1,I1,r1,q1⟩=>?_));refine vB (wpAny_holding (thn (hi pins s1 σ H1 _ I1 q1) λiv s2 ⟨y,H2,I2,r2,q2⟩=>?_));refine vB (wpAny_standAt (vB (wpAny_holding (thn (hs pins s2 σ H2 x y v ov iv u _ I2 r1 r2 r q2) λ_ s3 ⟨H3,I3,q3⟩=>?_))));exact wpAny_release ⟨σ,H3,I3,q3⟩
noncomputable def tAsg(te:TE)(g:TG):TS:=λD σ H=>te σ H λx H1=>g x σ H1 D.nx
theorem ps_asg{tg e:Expr}{te:TE}{g:TG}(he:PE X e te)(hg:PG X tg g)(hs:swapsWithSole [tg] e pos.line X.env=pure false:=by rfl)(hw:swappedStores [tg] e X.env=pure none:=by rfl)
  (h1:(assignEach [tg] X.env).map (·.2)=[assign tg X.env]:=by rfl):PS X (.Assign [tg] e pos) (tAsg te g):=by
 intro pins s σ H D I h;refine wpAny_Assign_stores (thn (he pins s σ H _ I h) λv s1 ⟨x,H1,I1,r1,q1⟩=>?_) hs hw;rw[h1];exact thn (hg pins s1 σ H1 x v _ I1 r1 q1) λ_ s2 q=>q
theorem ps_set{i:Nat}{x:Str}{e:Expr}{te:TE}{pos':Pos}(hN:X.N.Nodup)(hi:X.N[i]?=some x)(hx:Loc X.env.scope x)(he:PE X e te)(hs:swapsWith e (some (.Name x pos')) pos.line X.env=pure false:=by rfl)(hf:X.fn x=true\/X.env.scope.names.lookup x=some .local:=by first|exact .inl rfl|exact .inr rfl|assumption):
  PS X (.Assign [.Name x pos'] e pos) (tAsg te (l9 i)):=by
 intro pins s σ H D I h;refine wpAny_Assign_Name (thn (he pins s σ H _ I h) λv s1 ⟨y,H1,I1,r1,q1⟩=>?_) hs;exact store_ok I1 hN hi hx r1 (λs2 I2=>⟨_,H1,I2,q1⟩) hf
end
structure It where
 go:Nat->Hp->Prop
 yld:Nat->Hp->V->Hp->Prop
 stop:Nat->Hp->Prop
def QU(X:Cx)(pins:List (Addr×Obj))(H:Hp)(b:Addr):Prop:=
 H b=none/\b≠X.env.locals/\b∉X.fs/\(b∈X.ex\/X.s₀.heap.objs.size<=b)/\(∀x c,X.env.cells.lookup x=some c->c≠b)/\∀p∈X.pn++pins,p.1≠b
theorem Inv.fpOk{X:Cx}{pins:List (Addr×Obj)}{σ:St}{H H':Hp}{s:Shared}{b:Addr}(I:Inv X pins σ H s)(hb:s.heap.objs.size<=b)(hn:H' b=none):QU X pins H' b:=by
 refine⟨hn,Nat.ne_of_gt (wC I.lt hb),I.nofs hb,.inr (Nat.le_trans I.sz hb),λx c e z=>?_,λp hp z=>?_⟩
 ·obtain⟨v,q⟩:=I.cell x c e;exact absurd (wC q.lt (by rw[z];exact hb)) (Nat.lt_irrefl _)
 ·exact absurd (wC (Heap.lt_size (I.pin p hp).1) (by rw[z];exact hb)) (Nat.lt_irrefl _)
structure ZS(P:Program)(w:World)(K:PySem.W.Frag)(tg:Expr)(J:It)(fp:List Addr)(it:Addr)(tn:Nat->Heap->Prop):Prop where
 mem:it∈fp
 obj:∀i h,tn i h->∀b∈fp,∃o,h.get? b=some o/\∀v,o.data≠.cell v
 keep:∀i h h',tn i h->(∀b∈fp,∀o,h.get? b=some o->h'.get? b=some o)->tn i h'
 item:∀(X:Cx),X.prog=P->X.w=w->X.K=K->X.calm=true->∀(i:Nat) (pins:List (Addr×Obj)) (s:Shared) (σ:St) (H:Hp) (E:Value->Shared->Prop),Inv X pins σ H s->(∀b∈fp,QU X pins H b)->tn i s.heap->J.go i H ->
  wpAny (model P w) X.A (pyNext (.ref it)) (λr s1=>∃u,r=some u/\
   wpAny (model P w) X.A (letOwnedTupleGo tg (.ref it) u) (λ_ s2=>∃x H',Inv X pins σ H' s2/\RelV x u/\J.yld i H x H'/\tn (i+1) s2.heap/\∀b∈fp,H' b=none) E s1) E s
 done:∀(X:Cx),X.prog=P->X.w=w->X.K=K->X.calm=true->∀(i:Nat) (pins:List (Addr×Obj)) (s:Shared) (σ:St) (H:Hp) (E:Value->Shared->Prop),Inv X pins σ H s->(∀b∈fp,QU X pins H b)->tn i s.heap->J.stop i H ->
  wpAny (model P w) X.A (pyNext (.ref it)) (λr s1=>r=none/\Inv X pins σ H s1) E s
 self:∀(A:Around) (i:Nat) (s:Shared) (Q:Value->Shared->Prop) (E:Value->Shared->Prop),tn i s.heap->Q (.ref it) s->wpAny (model P w) A (pyIter (.ref it)) Q E s
noncomputable abbrev TI:=St->Hp->(It->Hp->Prop)->Prop
def PIE(X:Cx)(pins:List (Addr×Obj))(σ:St)(tg:Expr)(R:It->Hp->Prop)(itv:Value)(s2:Shared):Prop:=
 ∃(it:Addr) (fp:List Addr) (tn:Nat->Heap->Prop) (J:It) (H':Hp),itv=.ref it/\Inv X pins σ H' s2/\ZS X.prog X.w X.K tg J fp it tn/\tn 0 s2.heap/\(∀b∈fp,QU X pins H' b)/\R J H'
def PI(X:Cx)(tg iter:Expr)(wi:TI):Prop:=
 ∀(pins:List (Addr×Obj)) (s:Shared) (σ:St) (H:Hp) (R:It->Hp->Prop),Inv X pins σ H s->wi σ H R ->
  wpAny (model X.prog X.w) X.A (eval iter X.env) (λv s1=>wpAny (model X.prog X.w) X.A (pyIter v) (PIE X pins σ tg R) X.xe s1) X.xe s
theorem m3{M:Model}{A:Around}{E:Value->Shared->Prop}{s:Shared}{tg:Expr}{it:Addr}{u:Value}{o:Obj}{n:String}{vs:Array Value}{Q:Unit->Shared->Prop}(ho:s.heap.get? it=some o)(hc:o.cls=.type n)(hd:o.data=.fields vs)
  (hn:["enumerate","zip","dict_itemiterator","dict_reverseitemiterator","odict_iterator","itertools.zip_longest","itertools.pairwise"].contains n=false) (hQ:Q () s):wpAny M A (letOwnedTupleGo tg (.ref it) u) Q E s:=by
 unfold letOwnedTupleGo;cases tg<;>first
  |exact vC hQ
  | (cases u<;>first
    |exact vC hQ
    | (refine vB (wpAny_load ho ?_)
       rw[hc,hd];show wpAny M A (if (["enumerate","zip","dict_itemiterator","dict_reverseitemiterator","odict_iterator","itertools.zip_longest","itertools.pairwise"].contains n&&vs[0]?==some (rawInt _))=true then _ else _) Q E s;rw[if_neg (by intro h;rw[hn,Bool.false_and]at h;cases h)];exact vC hQ))
noncomputable def Itl(K:PySem.W.Frag)(a:Addr):It:=
 ⟨λi H=>∃xs x,SqL K H a xs/\xs[i]?=some x,λi H x H'=>H'=H/\∀xs,SqL K H a xs->xs[i]?=some x,λi H=>∃xs,SqL K H a xs/\xs.length<=i⟩
noncomputable def Itt(K:PySem.W.Frag)(a:Addr):It:=
 ⟨λi H=>∃xs x,SqT K H a xs/\xs[i]?=some x,λi H x H'=>H'=H/\∀xs,SqT K H a xs->xs[i]?=some x,λi H=>∃xs,SqT K H a xs/\xs.length<=i⟩
noncomputable def Itr(lo:Int)(n:Nat):It:=⟨λi _=>i<n,λi H x H'=>H'=H/\x=.int (lo+i),λi _=>n<=i⟩
theorem turn_list{P:Program}{w:World}{K:PySem.W.Frag}{tg:Expr}(a it:Addr):ZS P w K tg (Itl K a) [it] it (λi h=>h.IsListIter it a i) where
 mem:=by simp
 obj:=λi h st b hb=>by
  have e:b=it:=by simpa using hb
  subst e;obtain⟨o,e,c,d⟩:=st;exact⟨o,e,λv z=>by rw[d]at z;cases z⟩
 keep:=λi h h' st k=>st.at λo e=>k it (by simp) o e
 item:=by
  intro X hP hw hK hc i pins s σ H E I hf st hg;subst hP hw hK;obtain⟨xs,x,hq,hx⟩:=hg;obtain⟨its,rv,p,hz⟩:=I.list hq;obtain⟨u,hu,ru⟩:=rv.get hx;obtain⟨f0,f1,f2,f3,f4,f5⟩:=hf it (by simp);refine wpAny_pyNext_list_item st p.isList (x:=u) (by simpa using hu) λh' st' sb=>?_;have I1:Inv X pins σ H { s with heap:=h' }:=I.turned (t':=s.toks) (λb o hb e=>(sb.2 b hb).trans e) f0 f1 f3 f4 f5;obtain⟨o,e,c,d⟩:=id st';exact⟨u,rfl,m3 (s:={ s with heap:=h' }) e c d (by decide) ⟨x,H,I1,ru,⟨rfl,λys hy=>by rw[I.list_inj hy hq];exact hx⟩,st',λb hb=>(hf b hb).1⟩⟩
 done:=by
  intro X hP hw hK hc i pins s σ H E I hf st hg;subst hP hw hK;obtain⟨xs,hq,hx⟩:=hg;obtain⟨its,rv,p,hz⟩:=I.list hq;obtain⟨f0,f1,f2,f3,f4,f5⟩:=hf it (by simp);have hl:=rv.length;exact wpAny_pyNext_list_end (I.ok.hd hc) st p.isList (by simp;omega) λh' eb=>⟨rfl,I.turned (t':=s.toks) (λb o hb e=>eb b o hb e) f0 f1 f3 f4 f5⟩
 self:=λ_ _ _ _ _ st h=>wpAny_pyIter_listiter st h
theorem turn_tuple{P:Program}{w:World}{K:PySem.W.Frag}{tg:Expr}(a it:Addr):ZS P w K tg (Itt K a) [it] it (λi h=>h.IsTupleIter it a i) where
 mem:=by simp
 obj:=λi h st b hb=>by
  have e:b=it:=by simpa using hb
  subst e;obtain⟨o,e,c,d⟩:=st;exact⟨o,e,λv z=>by rw[d]at z;cases z⟩
 keep:=λi h h' st k=>st.at λo e=>k it (by simp) o e
 item:=by
  intro X hP hw hK hc i pins s σ H E I hf st hg;subst hP hw hK;obtain⟨xs,x,hq,hx⟩:=hg;obtain⟨its,rv,p,hz⟩:=I.tuple hq;obtain⟨u,hu,ru⟩:=rv.get hx;obtain⟨f0,f1,f2,f3,f4,f5⟩:=hf it (by simp);refine wpAny_pyNext_tuple_item st (show s.heap.IsTuple a its.toArray from p) (x:=u) (by simpa using hu) λh' st' sb=>?_;have I1:Inv X pins σ H { s with heap:=h' }:=I.turned (t':=s.toks) (λb o hb e=>(sb.2 b hb).trans e) f0 f1 f3 f4 f5;obtain⟨o,e,c,d⟩:=id st';exact⟨u,rfl,m3 (s:={ s with heap:=h' }) e c d (by decide) ⟨x,H,I1,ru,⟨rfl,λys hy=>by rw[I.tuple_inj hy hq];exact hx⟩,st',λb hb=>(hf b hb).1⟩⟩
 done:=by
  intro X hP hw hK hc i pins s σ H E I hf st hg;subst hP hw hK;obtain⟨xs,hq,hx⟩:=hg;obtain⟨its,rv,p,hz⟩:=I.tuple hq;obtain⟨f0,f1,f2,f3,f4,f5⟩:=hf it (by simp);have hl:=rv.length;exact wpAny_pyNext_tuple_end (I.ok.hd hc) st (show s.heap.IsTuple a its.toArray from p) (by simp;omega) λh' eb=>⟨rfl,I.turned (t':=s.toks) (λb o hb e=>eb b o hb e) f0 f1 f3 f4 f5⟩
 self:=λ_ _ _ _ _ st h=>wpAny_pyIter_tupleiter st h
theorem G3{P:Program}{w:World}{K:PySem.W.Frag}{tg:Expr}(it:Addr)(lo:Int)(n:Nat):ZS P w K tg (Itr lo n) [it] it (λi h=>IsRangeIter h it (lo+(i:Nat)*1) ((n:Int)-(i:Nat)) 1) where
 mem:=by simp
 obj:=λi h st b hb=>by
  have e:b=it:=by simpa using hb
  subst e;exact⟨_,st,λv z=>by
   have z':Data.fields _=Data.cell v:=z;cases z'⟩
 keep:=λi h h' st k=>k it (by simp) _ st
 item:=by
  intro X hP hw hK hc i pins s σ H E I hf st hg;subst hP hw hK;obtain⟨f0,f1,f2,f3,f4,f5⟩:=hf it (by simp);have W:=Walks.range (prog:=X.prog) (w:=X.w) (I.ok.hd hc) it lo 1 n;refine W.item i s _ _ hg st λv h' tk hv st' kk=>?_;obtain⟨t,rfl⟩:=hv;have I1:Inv X pins σ H { s with heap:=h',toks:=tk }:=I.turned (λb o hb e=>kk b o (by simpa using hb) e) f0 f1 f3 f4 f5;refine⟨_,rfl,m3 (s:={ s with heap:=h',toks:=tk }) (n:="range_iterator") st' rfl rfl (by decide) ⟨.int (lo+i),H,I1,⟨t,?_⟩,⟨rfl,rfl⟩,st',λb hb=>(hf b hb).1⟩⟩;rw[Int.mul_one]
 done:=by
  intro X hP hw hK hc i pins s σ H E I hf st hg;subst hP hw hK;obtain⟨f0,f1,f2,f3,f4,f5⟩:=hf it (by simp);exact wpAny_pyNext_range_end (I.ok.hd hc) st (by have:n<=i:=hg;omega) λh' eb=>⟨rfl,I.turned (t':=s.toks) (λb o hb e=>eb b o hb e) f0 f1 f3 f4 f5⟩
 self:=λ_ _ _ _ _ st h=>wpAny_pyIter_rangeiter st h
section
variable{X:Cx}{tg:Expr}
theorem S4{pins:List (Addr×Obj)}{σ:St}{H:Hp}{s:Shared}{R:It->Hp->Prop}{E:Value->Shared->Prop}{lo hi:Int}{t u v:Tok}{tk:Nat}(I:Inv X pins σ H s)(h1:-(2 ^ 62)<=lo)(h2:lo<2 ^ 62)(h3:-(2 ^ 62)<=hi)(h4:hi<2 ^ 62)
  (q:R (Itr lo (hi-lo).toNat) H):wpAny (model X.prog X.w) X.A (pyIter (.ref s.heap.objs.size)) (PIE X pins σ tg R) E { s with heap:=s.heap.push { cls:=.type "range",data:=.fields #[.int lo t,.int hi u,.int 1 v] },toks:=tk }:=by
 refine wpAny_pyIter_range (IsRange.new ..) (small_one h1 h2 h3 h4) ?_;have I1:Inv X pins σ H { s with heap:=s.heap.push { cls:=.type "range",data:=.fields #[.int lo t,.int hi u,.int 1 v] },toks:=tk }:=I.kept λb o e=>Heap.get?_push_of_some _ e;refine⟨(s.heap.push { cls:=.type "range",data:=.fields #[.int lo t,.int hi u,.int 1 v] }).objs.size,[(s.heap.push { cls:=.type "range",data:=.fields #[.int lo t,.int hi u,.int 1 v] }).objs.size],_,_,H,rfl,
  I1.kept (t':=tk) λb o e=>Heap.get?_push_of_some _ e,G3 _ lo (hi-lo).toNat,?_,λb hb=>?_,q⟩
 ·have e1:lo+((0:Nat):Int)*1=lo:=by simp
  have e2:(((hi-lo).toNat:Nat):Int)-((0:Nat):Int)=Builtin.Range.rangeSize lo hi 1:=by rw[rangeSize_one];split<;>omega
  show IsRangeIter _ _ (lo+((0:Nat):Int)*1) ((((hi-lo).toNat:Nat):Int)-((0:Nat):Int)) 1;rw[e1,e2];exact Heap.get?_push_size _ rfl
 ·have e:b=(s.heap.push { cls:=.type "range",data:=.fields #[.int lo t,.int hi u,.int 1 v] }).objs.size:=by simpa using hb
  subst e;exact I1.fpOk (Nat.le_refl _) (I1.hok.fresh (Nat.le_refl _))
noncomputable def qCq(ta:TA):TI:=λσ H R=>ta σ H λvs H1=>∃j:Int,vs=[.int j]/\-(2 ^ 62)<=j/\j<2 ^ 62/\R (Itr 0 j.toNat) H1
theorem pi_range1{a:Expr}{ta:TA}{p pos:Pos}(hg:Gl X "range")(hm:X.mg "range"=none)(ha:PA X [a] ta)(hs:starEach [a] X.env=[(false,eval a X.env)]:=by rfl):PI X tg (.Call (.Name "range" p) [a] [] pos) (qCq ta):=by
 intro pins s σ H R I h;refine Call_ (ld_blt I hg hm boot_range (PyProof.Rows.callWith_type1 (thn (ha pos pins s σ H _ I h) λus s1 ⟨vs,H1,I1,r1,q1⟩=>?_) hs rfl));obtain⟨j,e,q1,q2,q⟩:=q1;subst e;cases r1 with
 |cons r rr=>
  cases rr;obtain⟨t,rfl⟩:=r;exact call_range_1 (S4 I1 (by omega) (by omega) q1 q2 (by simpa using q))
noncomputable def qE1(wi:TI)(g:TG)(tb:TS):TS:=λD σ H=>wi σ H λJ H1=>∃W:Nat->Nat->St->Hp->Prop,(∃m,W 0 m σ H1)/\∀i m σ H,W i m σ H ->
 (J.stop i H/\D.nx σ H)\/(J.go i H/\∃N:St->Hp->Prop,(∀σ' H',N σ' H'->∃m',m'<m/\W (i+1) m' σ' H')/\∀x H',J.yld i H x H'->g x σ H' λσ2 H2=>tb { D with nx:=N,ct:=N,bk:=D.nx } σ2 H2)
noncomputable def ZZ(fp:List Addr)(h:Heap):List (Addr×Obj):=fp.filterMap λb=>(h.get? b).map λo=>(b,o)
theorem zo{fp:List Addr}{h:Heap}{b:Addr}{o:Obj}(hb:b∈fp)(e:h.get? b=some o):(b,o)∈ZZ fp h:=List.mem_filterMap.mpr ⟨b,hb,by rw[e];rfl⟩
theorem Q5{fp:List Addr}{h:Heap}{p:Addr×Obj}(hp:p∈ZZ fp h):p.1∈fp/\h.get? p.1=some p.2:=by
 obtain⟨b,hb,e⟩:=List.mem_filterMap.mp hp;cases q:h.get? b with
 |none=>rw[q]at e;cases e
 |some o=>
  rw[q]at e;have e':(b,o)=p:=Option.some.inj e;subst e';exact⟨hb,q⟩
theorem Inv.pinned{pins:List (Addr×Obj)}{σ:St}{H:Hp}{s:Shared}{fp:List Addr}(I:Inv X pins σ H s)(hf:∀b∈fp,QU X pins H b)(ho:∀b∈fp,∃o,s.heap.get? b=some o/\∀v,o.data≠.cell v):Inv X (pins++ZZ fp s.heap) σ H s:=
 I.pins_of λp hp=>(wD.mp hp).elim (λz=>I.pin p (wH _ z)) λz=>by
  obtain⟨hb,e⟩:=Q5 z;obtain⟨f0,f1,f2,_⟩:=hf p.1 hb;obtain⟨o,e',d⟩:=ho p.1 hb;rw[e]at e';cases e';exact⟨e,f0,f1,f2,d⟩
theorem Inv.unpinned{pins pl:List (Addr×Obj)}{σ:St}{H:Hp}{s:Shared}(I:Inv X (pins++pl) σ H s):Inv X pins σ H s:=I.pins_of λp hp=>I.pin p (wH _ (wE _ hp))
theorem ps_for{iter:Expr}{body:List Stmt}{wi:TI}{g:TG}{tb:TS}{pos:Pos}(hp:PassesOwn (model X.prog X.w) X.A X.env X.xe)(hc:X.calm=true)(hi:PI X tg iter wi)(hg:PG X tg g)(hb:PSs X body tb)
  (hs:∀x,foldedSetIterable iter X.env x=pure x:=by intro _;rfl):PS X (.For tg iter body [] pos) (qE1 wi g tb):=by
 intro pins s σ H D I h;refine wpAny_For (thn (hi pins s σ H _ I h) λv s1 h1=>thn h1 λitv s2 h2=>?_) hs;obtain⟨it,fp,tn,J,H2,e,I2,T,st2,f2,W,⟨m0,w0⟩,qA0⟩:=h2;subst e;have stat:∀{H':Hp},(∀b∈fp,H' b=none)->∀b∈fp,QU X pins H' b:=λhn b hb=>⟨hn b hb,(f2 b hb).2⟩
 refine codeAny_forLoop_any (λn s'=>∃i σ' H',Inv X pins σ' H' s'/\tn i s'.heap/\(∀b∈fp,H' b=none)/\W i n σ' H') ?_ m0 ⟨0,σ,H2,I2,st2,λb hb=>(f2 b hb).1,w0⟩;rintro n s3 ⟨i,σ3,H3,I3,st3,fr3,w3⟩;rcases qA0 i n σ3 H3 w3 with⟨stop,qn⟩|⟨go,N,hN,step⟩
 ·refine wpAny_passesOwn hp (thn (T.done X rfl rfl rfl hc i pins s3 σ3 H3 X.xe I3 (stat fr3) st3 stop) λr s4 ⟨hr,I4⟩=>?_);subst hr;exact wpAny_execs_nil ⟨σ3,H3,I4,qn⟩
 ·refine wpAny_passesOwn hp (thn (T.item X rfl rfl rfl hc i pins s3 σ3 H3 X.xe I3 (stat fr3) st3 go) λr s4 ⟨u,hr,h4⟩=>?_);subst hr;refine wpAny_passesOwn hp (thn h4 λ_ s5 ⟨x,H5,I5,r5,y5,st5,fr5⟩=>?_);have I5':=I5.pinned (stat fr5) (T.obj _ _ st5);refine wpAny_passesOwn hp (thn (hg _ s5 σ3 H5 x u _ I5' r5 (step x H5 y5)) λ_ s6 ⟨σ6,H6,I6,q6⟩=>?_);refine wpAny_passesOwn hp (thn (hb _ s6 σ6 H6 _ I6 q6) λf s7 q7=>?_);have again:∀{σ7:St}{H7:Hp},Inv X (pins++ZZ fp s5.heap) σ7 H7 s7->N σ7 H7->∃m,m<n/\∃i σ' H',Inv X pins σ' H' s7/\tn i s7.heap/\(∀b∈fp,H' b=none)/\W i m σ' H':=λ{σ7 H7} I7 n7=>by
   obtain⟨m',hm,w7⟩:=hN σ7 H7 n7;refine⟨m',hm,i+1,σ7,H7,I7.unpinned,T.keep _ _ _ st5 λb hb o e=>(I7.pin (b,o) (wH _ (wH _ (zo hb e)))).1,λb hb=>?_,w7⟩;obtain⟨o,e,d⟩:=T.obj _ _ st5 b hb;exact(I7.pin (b,o) (wH _ (wH _ (zo hb e)))).2.1
  cases f with
  |next=>obtain⟨σ7,H7,I7,n7⟩:=q7;exact again I7 n7
  |cont=>obtain⟨σ7,H7,I7,n7⟩:=q7;exact again I7 n7
  |brk=>obtain⟨σ7,H7,I7,q7⟩:=q7;exact⟨σ7,H7,I7.unpinned,q7⟩
  |ret v=>obtain⟨x7,σ7,H7,I7,r7,q7⟩:=q7;exact⟨x7,σ7,H7,I7.unpinned,r7,q7⟩
end
noncomputable abbrev R2:=V->V->Hp->VK->Prop
def OpR(X:Cx)(f:Value->Value->Sem Value)(r:R2):Prop:=
 ∀(pins:List (Addr×Obj)) (s:Shared) (σ:St) (H:Hp) (x y:V) (v u:Value) (Q:VK),Inv X pins σ H s->RelV x v->RelV y u->r x y H Q ->
  wpAny (model X.prog X.w) X.A (f v u) (EP X pins σ Q) X.xe s
def UnR(X:Cx)(f:Value->Sem Value)(r:V->Hp->VK->Prop):Prop:=
 ∀(pins:List (Addr×Obj)) (s:Shared) (σ:St) (H:Hp) (x:V) (v:Value) (Q:VK),Inv X pins σ H s->RelV x v->r x H Q ->
  wpAny (model X.prog X.w) X.A (f v) (EP X pins σ Q) X.xe s
def qr(X:Cx)(f:Value)(r:List V->Hp->VK->Prop):Prop:=
 ∀(pins:List (Addr×Obj)) (s:Shared) (σ:St) (H:Hp) (xs:List V) (us:List Value) (Q:VK),Inv X pins σ H s->Vals xs us->r xs H Q ->
  wpAny (model X.prog X.w) X.A (call f us) (EP X pins σ Q) X.xe s
noncomputable def tOp(r:R2)(ta tb:TE):TE:=λσ H Q=>ta σ H λx H1=>tb σ H1 λy H2=>r x y H2 Q
noncomputable def tUn(r:V->Hp->VK->Prop)(ta:TE):TE:=λσ H Q=>ta σ H λx H1=>r x H1 Q
noncomputable def rI(C:Int->Int->Prop)(g:Int->Int->V):R2:=λx y H Q=>∃i j,x=.int i/\y=.int j/\C i j/\Q (g i j) H
noncomputable def rI0(g:Int->Int->V):R2:=λx y H Q=>∃i j,x=.int i/\y=.int j/\Q (g i j) H
def rU(g:Int->V):V->Hp->VK->Prop:=λx H Q=>∃i,x=.int i/\Q (g i) H
section
variable{X:Cx}{a b c:Expr}{ta tb tc:TE}{pos:Pos}
theorem zJ(ha:PE X a ta)(hb:PE X b tb){pins:List (Addr×Obj)}{s:Shared}{σ:St}{H:Hp}{R:V->V->Hp->Prop}(I:Inv X pins σ H s)
  (h:ta σ H λx H1=>tb σ H1 λy H2=>R x y H2){Q:Value->Shared->Prop}{f:Value->Value->Sem Value}
  (hf:∀v u s2 x y H2,Inv X pins σ H2 s2->RelV x v->RelV y u->R x y H2->wpAny (model X.prog X.w) X.A (f v u) Q X.xe s2):
  wpAny (model X.prog X.w) X.A (eval a X.env) (λv s₁=>wpAny (model X.prog X.w) X.A (eval b X.env) (λu s₂=>wpAny (model X.prog X.w) X.A (f v u) Q X.xe s₂) X.xe s₁) X.xe s:=by
 refine thn (ha pins s σ H _ I h) λv s1 ⟨x,H1,I1,r1,q1⟩=>?_;refine thn (hb pins s1 σ H1 _ I1 q1) λu s2 ⟨y,H2,I2,r2,q2⟩=>?_;exact hf v u s2 x y H2 I2 r1 r2 q2
theorem pe_op{op:Operator}{r:R2}(ho:OpR X (binaryOp op) r)(ha:PE X a ta)(hb:PE X b tb):PE X (.BinOp a op b pos) (tOp r ta tb):=by
 intro pins s σ H Q I h;exact wpAny_BinOp (zJ ha hb I h λv u s2 x y H2 I2 rx ry q=>ho pins s2 σ H2 x y v u Q I2 rx ry q)
theorem pe_un{op:UnaryOp}{r:V->Hp->VK->Prop}(ho:UnR X (unaryOp op) r)(ha:PE X a ta):PE X (.UnaryOp op a pos) (tUn r ta):=by
 intro pins s σ H Q I h;exact UnaryOp_ (thn (ha pins s σ H _ I h) λv s1 ⟨x,H1,I1,r1,q1⟩=>ho pins s1 σ H1 x v Q I1 r1 q1)
theorem opI{f:Value->Value->Sem Value}{C:Int->Int->Prop}{g:Int->Int->Int}
  (rule:∀(i j:Int) (t u:Tok) (s:Shared) (Q:Value->Shared->Prop) (E:Value->Shared->Prop),C i j->Q (.int (g i j) s.toks) { s with toks:=s.toks+1 }->wpAny (model X.prog X.w) X.A (f (.int i t) (.int j u)) Q E s):
  OpR X f (rI C λi j=>.int (g i j)):=by
 intro pins s σ H x y v u Q I rx ry h;obtain⟨i,j,rfl,rfl,hc,q⟩:=h;obtain⟨t,rfl⟩:=rx;obtain⟨t',rfl⟩:=ry;exact rule i j t t' s _ _ hc ⟨.int (g i j),H,I.tok _,⟨_,rfl⟩,q⟩
theorem qCx{f:Value->Value->Sem Value}{g:Int->Int->Int}
  (rule:∀(i j:Int) (t u:Tok) (s:Shared) (Q:Value->Shared->Prop) (E:Value->Shared->Prop),Q (.int (g i j) s.toks) { s with toks:=s.toks+1 }->wpAny (model X.prog X.w) X.A (f (.int i t) (.int j u)) Q E s):
  OpR X f (rI0 λi j=>.int (g i j)):=by
 intro pins s σ H x y v u Q I rx ry h;obtain⟨i,j,rfl,rfl,q⟩:=h;obtain⟨t,rfl⟩:=rx;obtain⟨t',rfl⟩:=ry;exact rule i j t t' s _ _ ⟨.int (g i j),H,I.tok _,⟨_,rfl⟩,q⟩
theorem qCT{f:Value->Value->Sem Value}{g:Int->Int->Bool}
  (rule:∀(i j:Int) (t u:Tok) (s:Shared) (Q:Value->Shared->Prop) (E:Value->Shared->Prop),Q (.bool (g i j)) s->wpAny (model X.prog X.w) X.A (f (.int i t) (.int j u)) Q E s):
  OpR X f (rI0 λi j=>.bl (g i j)):=by
 intro pins s σ H x y v u Q I rx ry h;obtain⟨i,j,rfl,rfl,q⟩:=h;obtain⟨t,rfl⟩:=rx;obtain⟨t',rfl⟩:=ry;exact rule i j t t' s _ _ ⟨.bl (g i j),H,I,rfl,q⟩
def CDiv(i j:Int):Prop:=0<j/\j<1073741824
def CPow(i j:Int):Prop:=0<=j/\j<=1000000/\i.natAbs<2 ^ 64
def CMul(i j:Int):Prop:=(-(2 ^ 64)<i/\i<2 ^ 64)\/(-(2 ^ 64)<j/\j<2 ^ 64)
theorem CMul.ok{i j:Int}(h:CMul i j):IntMulOk i j:=by
 rcases h with⟨h1,h2⟩|⟨h1,h2⟩
 ·exact .of_left (intBits_le_64 h1 h2)
 ·exact .of_right (intBits_le_64 h1 h2)
theorem op_add:OpR X (binaryOp .Add) (rI0 λi j=>.int (i+j)):=qCx λ_ _ _ _ _ _ _ q=>add_int q
theorem op_sub:OpR X (binaryOp .Sub) (rI0 λi j=>.int (i-j)):=qCx λ_ _ _ _ _ _ _ q=>sub_int q
theorem op_mul:OpR X (binaryOp .Mult) (rI CMul λi j=>.int (i*j)):=opI λ_ _ _ _ _ _ _ hc q=>mul_int q hc.ok
theorem op_fdiv:OpR X (binaryOp .FloorDiv) (rI CDiv λi j=>.int (i / j)):=opI λi j _ _ _ _ _ hc q=>by
 have h1:(0:Int)<j:=hc.1;have h2:j<1073741824:=hc.2;exact floordiv_int (by omega) (by rw[Int.fdiv_eq_ediv_of_nonneg i (by omega)];exact q) (.inl (PyProof.noPylong_small (by omega)))
theorem op_mod:OpR X (binaryOp .Mod) (rI (λ_ j=>0<j) λi j=>.int (i % j)):=opI λi j _ _ _ _ _ hc q=>by
 have h1:(0:Int)<j:=hc;exact mod_int' (by omega) (by rw[Int.fmod_eq_emod_of_nonneg i (by omega)];exact q)
theorem op_modN:OpR X (binaryOp .Mod) (rI (λ_ j=>j≠0) λi j=>.int (i.fmod j)):=opI λ_ _ _ _ _ _ _ hc q=>mod_int' hc q
theorem op_pow:OpR X (binaryOp .Pow) (rI CPow λi j=>.int (i ^ j.toNat)):=opI λ_ _ _ _ _ _ _ hc q=>pow_int_small hc.1 hc.2.1 hc.2.2 q
theorem op_shl:OpR X (binaryOp .LShift) (rI CPow λi j=>.int (i*2 ^ j.toNat)):=opI λ_ _ _ _ _ _ _ hc q=>lshift_int_small hc.1 hc.2.1 hc.2.2 q
theorem op_and:OpR X (binaryOp .BitAnd) (rI0 λi j=>.int (Builtin.bitAnd i j)):=qCx λ_ _ _ _ _ _ _ q=>and_int q
theorem unI{f:Value->Sem Value}{g:Int->Int}
  (rule:∀(i:Int) (t:Tok) (s:Shared) (Q:Value->Shared->Prop) (E:Value->Shared->Prop),Q (.int (g i) s.toks) { s with toks:=s.toks+1 }->wpAny (model X.prog X.w) X.A (f (.int i t)) Q E s):
  UnR X f (rU λi=>.int (g i)):=by
 intro pins s σ H x v Q I rx h;obtain⟨i,rfl,q⟩:=h;obtain⟨t,rfl⟩:=rx;exact rule i t s _ _ ⟨.int (g i),H,I.tok _,⟨_,rfl⟩,q⟩
theorem un_neg:UnR X (unaryOp .USub) (rU λi=>.int (-i)):=unI λ_ _ _ _ _ q=>neg_int q
end
section
variable{X:Cx}{a b c:Expr}{ta tb tc:TE}{pos:Pos}
theorem Z9{pins:List (Addr×Obj)}{σ:St}{H:Hp}{s:Shared}{Q:VK}{k k':Bool}(I:Inv X pins σ H s)(q:Q (.bl k) H)(e:k=k'):EP X pins σ Q (.bool k') s:=by
 subst e;exact⟨.bl k,H,I,rfl,q⟩
theorem op_lt:OpR X (compareOp .Lt) (rI0 λi j=>.bl (decide (i<j))):=qCT λ_ _ _ _ _ _ _ q=>lt_int q
theorem op_le:OpR X (compareOp .LtE) (rI0 λi j=>.bl (decide (i<=j))):=qCT λ_ _ _ _ _ _ _ q=>le_int q
theorem op_gt:OpR X (compareOp .Gt) (rI0 λi j=>.bl (decide (j<i))):=qCT λ_ _ _ _ _ _ _ q=>gt_int q
theorem op_ge:OpR X (compareOp .GtE) (rI0 λi j=>.bl (decide (j<=i))):=qCT λ_ _ _ _ _ _ _ q=>ge_int q
theorem op_isN:OpR X (compareOp .Is) (λx y H Q=>y=.non/\Q (.bl (decide (x=.non))) H):=by
 intro pins s σ H x y v u Q I rx ry h;obtain⟨rfl,q⟩:=h;cases ry;refine is_none_gen (Z9 I q ?_);cases x<;>first
  | (cases rx;rfl)
  | (obtain⟨t,rfl⟩:=rx;rfl)
theorem op_notN:OpR X (compareOp .IsNot) (λx y H Q=>y=.non/\Q (.bl (!decide (x=.non))) H):=by
 intro pins s σ H x y v u Q I rx ry h;obtain⟨rfl,q⟩:=h;cases ry;refine isnot_none_gen (Z9 I q ?_);cases x<;>first
  | (cases rx;rfl)
  | (obtain⟨t,rfl⟩:=rx;rfl)
theorem OpR.or{f:Value->Value->Sem Value}{r r':R2}(h:OpR X f r)(h':OpR X f r'):OpR X f (λx y H Q=>r x y H Q\/r' x y H Q):=by
 intro pins s σ H x y v u Q I rx ry q;rcases q with q|q
 ·exact h pins s σ H x y v u Q I rx ry q
 ·exact h' pins s σ H x y v u Q I rx ry q
theorem pe_cmpR{op:CmpOp}{r:R2}(ho:OpR X (compareOp op) r)(ha:PE X a ta)(hb:PE X b tb)(hm:behindInMarks op b=false):PE X (.Compare a [op] [b] pos) (tOp r ta tb):=by
 intro pins s σ H Q I h;exact wpAny_Compare1 (zJ ha hb I h λv u s2 x y H2 I2 rx ry q=>ho pins s2 σ H2 x y v u Q I2 rx ry q) hm
noncomputable def qB8(t:TE):TT:=λσ H Q=>t σ H λx H'=>∃k,x=.bl k/\Q k H'
theorem pt_cmpR{op:CmpOp}{r:R2}(ho:OpR X (compareOp op) r)(ha:PE X a ta)(hb:PE X b tb)(hm:behindInMarks op b=false):PT X (.Compare a [op] [b] pos) (qB8 (tOp r ta tb)):=by
 intro pins s σ H Q I h;refine wpAny_isTrue_Compare1 (thn (ha pins s σ H _ I h) λv s1 ⟨x,H1,I1,r1,q1⟩=>thn (hb pins s1 σ H1 _ I1 q1) λu s2 ⟨y,H2,I2,r2,q2⟩=>
  thn (ho pins s2 σ H2 x y v u _ I2 r1 r2 q2) λc s3 ⟨z,H3,I3,r3,k,e,q3⟩=>?_) hm
 subst e;cases r3;exact vH ⟨H3,I3,q3⟩
noncomputable def tChain(r r':R2)(ta tb tc:TE):TE:=λσ H Q=>ta σ H λx H1=>tb σ H1 λy H2=>r x y H2 λz H3=>∃k,z=.bl k/\
 (if k=true then tc σ H3 λw' H4=>r' y w' H4 Q else Q (.bl false) H3)
theorem pe_chain{op op':CmpOp}{r r':R2}(ho:OpR X (compareOp op) r)(ho':OpR X (compareOp op') r')(ha:PE X a ta)(hb:PE X b tb)(hc:PE X c tc)
  (hm:lastMarks [op,op'] [b,c]=false:=by with_unfolding_all rfl):PE X (.Compare a [op,op'] [b,c] pos) (tChain r r' ta tb tc):=by
 intro pins s σ H Q I h;refine Compare_chain (thn (ha pins s σ H _ I h) λv s1 ⟨x,H1,I1,r1,q1⟩=>chain_link (thn (hb pins s1 σ H1 _ I1 q1) λu s2 ⟨y,H2,I2,r2,q2⟩=>
  thn (ho pins s2 σ H2 x y v u _ I2 r1 r2 q2) λd s3 ⟨z,H3,I3,r3,k,e,q3⟩=>?_)) hm
 subst e;cases r3;refine vH ?_;cases k with
 |false=>exact ite_ff ⟨.bl false,H3,I3,rfl,q3⟩
 |true=>exact ite_tt (chain_last (thn (hc pins s3 σ H3 _ I3 q3) λw' s4 ⟨z',H4,I4,r4,q4⟩=>ho' pins s4 σ H4 y z' u w' Q I4 r2 r4 q4))
theorem pt_chain{op op':CmpOp}{r r':R2}(ho:OpR X (compareOp op) r)(ho':OpR X (compareOp op') r')(ha:PE X a ta)(hb:PE X b tb)(hc:PE X c tc)
  (hm:lastMarks [op,op'] [b,c]=false:=by with_unfolding_all rfl):PT X (.Compare a [op,op'] [b,c] pos) (qB8 (tChain r r' ta tb tc)):=by
 intro pins s σ H Q I h;refine isTrue_chain (thn (ha pins s σ H _ I h) λv s1 ⟨x,H1,I1,r1,q1⟩=>test_link (thn (hb pins s1 σ H1 _ I1 q1) λu s2 ⟨y,H2,I2,r2,q2⟩=>
  thn (ho pins s2 σ H2 x y v u _ I2 r1 r2 q2) λd s3 ⟨z,H3,I3,r3,k,e,q3⟩=>?_)) hm
 subst e;cases r3;refine vH ?_;cases k with
 |false=>
  obtain⟨k',e',q'⟩:=q3;cases e';exact ite_ff ⟨H3,I3,q'⟩
 |true=>
  refine ite_tt (test_last (thn (hc pins s3 σ H3 _ I3 q3) λw' s4 ⟨z',H4,I4,r4,q4⟩=>thn (ho' pins s4 σ H4 y z' u w' _ I4 r2 r4 q4) λd' s5 ⟨z2,H5,I5,r5,k2,e2,q5⟩=>?_));subst e2;cases r5;exact vH ⟨H5,I5,q5⟩
theorem B0:(sizeLine:Nat)<2 ^ 63:=by rw[sizeLine_eq];decide
theorem vals1{x:V}{us:List Value}(r:Vals [x] us):∃u,us=[u]/\RelV x u:=by
 cases r with
 |cons r1 r2=>cases r2;exact⟨_,rfl,r1⟩
theorem vals2{x y:V}{us:List Value}(r:Vals [x,y] us):∃u w',us=[u,w']/\RelV x u/\RelV y w':=by
 cases r with
 |cons r1 r2=>
  cases r2 with
  |cons r3 r4=>cases r4;exact⟨_,_,rfl,r1,r3⟩
theorem call_max2(hc:X.calm=true):qr X (.builtin "max") (λxs H Q=>∃i j,xs=[.int i,.int j]/\Q (.int (if j>i then j else i)) H):=by
 intro pins s σ H xs us Q I r h;obtain⟨i,j,rfl,q⟩:=h;obtain⟨u,w',rfl,⟨t,rfl⟩,⟨t',rfl⟩⟩:=vals2 r;refine max_two_ints (I.ok.hd hc) λh' tk k=>⟨_,H,I.kept k,?_,q⟩
 by_cases hj:j>i
 ·rw[if_pos hj,if_pos hj];exact⟨_,rfl⟩
 ·rw[if_neg hj,if_neg hj];exact⟨_,rfl⟩
theorem call_min2(hc:X.calm=true):qr X (.builtin "min") (λxs H Q=>∃i j,xs=[.int i,.int j]/\Q (.int (if j<i then j else i)) H):=by
 intro pins s σ H xs us Q I r h;obtain⟨i,j,rfl,q⟩:=h;obtain⟨u,w',rfl,⟨t,rfl⟩,⟨t',rfl⟩⟩:=vals2 r;refine min_two_ints (I.ok.hd hc) λh' tk k=>⟨_,H,I.kept k,?_,q⟩
 by_cases hj:j<i
 ·rw[if_pos hj,if_pos hj];exact⟨_,rfl⟩
 ·rw[if_neg hj,if_neg hj];exact⟨_,rfl⟩
theorem call_int1:qr X (.type "int") (λxs H Q=>(∃i,xs=[.int i]/\Q (.int i) H)\/∃k,xs=[.bl k]/\Q (.int (if k then 1 else 0)) H):=by
 intro pins s σ H xs us Q I r h;rcases h with⟨i,rfl,q⟩|⟨k,rfl,q⟩
 ·obtain⟨u,rfl,t,rfl⟩:=vals1 r;exact call_int_int ⟨.int i,H,I,⟨_,rfl⟩,q⟩
 ·obtain⟨u,rfl,r1⟩:=vals1 r;cases r1;exact call_int_bool ⟨.int (if k then 1 else 0),H,I.tok _,⟨_,rfl⟩,q⟩
end
structure Room(k:Nat)(A:Around):Prop where
 hd:A.handled=none
 dp:A.depth+3*k+5<recursionLimit
 un:A.units+16*k+200<cLine
 gd:A.guards=some []
theorem Room.mono{j k:Nat}{A:Around}(r:Room k A)(h:j<=k):Room j A:=⟨r.hd,by have:=r.dp;omega,by have:=r.un;omega,r.gd⟩
theorem Room.deeper{k:Nat}{A:Around}(r:Room (k+1) A)(env:Env):Room k (A.deeper env):=
 ⟨r.hd,by have:=r.dp;show A.depth+1+3*k+5<_;omega,by have:=r.un;show A.units+3+16*k+200<_;omega,r.gd⟩
theorem Room.in1{k:Nat}{A:Around}(r:Room (k+1) A):Room k A.in1:=
 ⟨r.hd,by have:=r.dp;show A.depth+3*k+5<_;omega,by have:=r.un;show A.units+1+16*k+200<_;omega,r.gd⟩
theorem Room.depth{k:Nat}{A:Around}(r:Room k A):A.depth<recursionLimit:=by have:=r.dp;omega
theorem Room.units{k:Nat}{A:Around}(r:Room k A):A.units+64<cLine:=by have:=r.un;omega
noncomputable def qEA:TA:=λ_ H Q=>Q [] H
noncomputable def qC1(ta:TE)(tr:TA):TA:=λσ H Q=>ta σ H λx H1=>tr σ H1 λxs H2=>Q (x::xs) H2
section
variable{X:Cx}{e:Expr}{es:List Expr}{te:TE}{t:TA}{pos:Pos}
theorem pa_nil:PA X [] qEA:=λ_ _ _ _ H Q I h=>Calls.spliced_nil ⟨[],H,I,.nil,h⟩
theorem pa_cons(ha:PE X e te)(hr:PA X es t)(hs:starEach (e::es) X.env=(false,eval e X.env)::starEach es X.env:=by rfl):PA X (e::es) (qC1 te t):=by
 intro pos pins s σ H Q I h;rw[hs];show wpAny _ _ (spliced ((false,eval e X.env)::backTo pos (starEach es X.env))) _ _ s;refine Calls.spliced_cons (thn (ha pins s σ H _ I h) λu s1 ⟨x,H1,I1,r1,q1⟩=>?_);exact thn (hr pos pins s1 σ H1 _ I1 q1) λus s2 ⟨xs,H2,I2,r2,q2⟩=>⟨x::xs,H2,I2,.cons r1 r2,q2⟩
noncomputable def qEk(t:TA):TE:=λσ H Q=>t σ H λxs H1=>xs.length<=sizeLine/\∀p,H1 p=none->Q (.ref p) (upd H1 p (.tup xs))
noncomputable def qEo(t:TA):TE:=λσ H Q=>t σ H λxs H1=>xs.length<=sizeLine/\∀p,H1 p=none->Q (.ref p) (upd H1 p (.lst xs))
theorem pe_tup {x1}(h:PA X es t):PE X (.Tuple es x1 pos) (qEk t):=by
 intro pins s σ H Q I hq;refine wpAny_Tuple_spliced (thn (h pos pins s σ H _ I hq) λus s1 ⟨xs,H1,I1,r,z,q⟩=>⟨by rw[<-r.length];exact z,?_⟩);have hf:H1 s1.heap.objs.size=none:=I1.hok.fresh (Nat.le_refl _);refine⟨.ref s1.heap.objs.size,upd H1 s1.heap.objs.size (.tup xs),I1.laid (t':=s1.toks) (λb u e=>Heap.get?_push_of_some _ e) (Nat.le_refl _) ?_,rfl,q _ hf⟩;exact⟨z,us,r,⟨_,Heap.get?_push_size _ rfl,rfl,_,rfl⟩⟩
theorem pe_lst(h:PA X es t):PE X (.List es pos) (qEo t):=by
 intro pins s σ H Q I hq;refine wpAny_List_spliced (thn (h pos pins s σ H _ I hq) λus s1 ⟨xs,H1,I1,r,z,q⟩=>⟨by rw[<-r.length];exact z,?_⟩);have hf:H1 s1.heap.objs.size=none:=I1.hok.fresh (Nat.le_refl _);refine⟨.ref s1.heap.objs.size,upd H1 s1.heap.objs.size (.lst xs),I1.laid (t':=s1.toks) (λb u e=>Heap.get?_push_of_some _ e) (Nat.le_refl _) ?_,rfl,q _ hf⟩;exact⟨z,us,0,r,Heap.get?_push_size _ rfl⟩
end
noncomputable abbrev Sp:=List V->Hp->VK->XK->Prop
noncomputable abbrev CXT:=List Env->Hp->Shared->XK->Value->Shared->Prop
structure Env0(P:Program)(w:World)(K:PySem.W.Frag)(mg:Str->Option Value)(base:Heap)(A:Around)(outer:List Env)(s:Shared)(H:Hp):Prop where
 frames:A.frames=some outer
 mod:Mod K mg base
 bs:∀b o,base.get? b=some o->s.heap.get? b=some o/\H b=none
 bsz:base.objs.size<=s.heap.objs.size
 funs:s.heap.FunFrames base outer
 frf:∀b∈frs outer,H b=none
 hok:HOk P w H s.heap
 bare:AllBare s.gens
def CE(outer:List Env)(P:Program)(w:World)(H:Hp)(s:Shared)(Q:VK)(u:Value)(s':Shared):Prop:=
 ∃v H',s'.os=s.os/\AllBare s'.gens/\Un (frs outer) [] H H' s.heap s'.heap/\HOk P w H' s'.heap/\RelV v u/\Q v H'
def CR(CX:CXT)(outer:List Env)(P:Program)(w:World)(H:Hp)(s:Shared)(Q:VK)(E:XK)(r:Result)(s':Shared):Prop:=
 match r with
 | .ok (.ret u)=>CE outer P w H s Q u s'
 | .ok _=>False
 | .error e=>CX outer H s E e s'
structure FnOk(P:Program)(w:World)(K:PySem.W.Frag)(mg:Str->Option Value)(base:Heap)(CX:CXT)(k:Nat)(f:Addr)(fd:FuncData)(ps:List Str)(sp:Sp):Prop where
 len:∀vs H Q E,sp vs H Q E->vs.length=ps.length
 run:∀(A:Around) (outer:List Env) (s:Shared) (H:Hp) (args:Args) (us:List Value) (vs:List V) (Q:VK) (E:XK),Room k A->Env0 P w K mg base A outer s H->BindsTo s fd args (ps.zip us)->Vals vs us->sp vs H Q E ->
  codeAny (model P w) A (.call (.ref f) args) (CR CX outer P w H s Q E) s
theorem Env0.in1{P:Program}{w:World}{K:PySem.W.Frag}{mg:Str->Option Value}{base:Heap}{A:Around}{outer:List Env}{s:Shared}{H:Hp}(e:Env0 P w K mg base A outer s H):
  Env0 P w K mg base A.in1 outer s H:=⟨e.frames,e.mod,e.bs,e.bsz,e.funs,e.frf,e.hok,e.bare⟩
section
variable{X:Cx}{pins:List (Addr×Obj)}{σ:St}{H:Hp}{s s':Shared}
theorem Inv.env0(I:Inv X pins σ H s):Env0 X.prog X.w X.K X.mg X.base X.A X.stack s H:=
 ⟨I.ok.frames,I.ok.mod,I.bs,Nat.le_trans I.ok.bsz I.sz,I.stack,I.stkFree,I.hok,I.bare⟩
theorem Inv.after{Q:VK}{u:Value}(I:Inv X pins σ H s)(h:CE X.stack X.prog X.w H s Q u s'):EP X pins σ Q u s':=by
 obtain⟨v,H',os,bare,un,hok,r,q⟩:=h;obtain⟨hh,g,d,t,os'⟩:=s';obtain rfl:os'=s.os:=os;exact⟨v,H',I.call (h':=hh) (g':=g) (d':=d) (t':=t) (ch:=[]) un hok bare (λb z=>absurd z (by simp)),r,q⟩
end
noncomputable def tCall(sp:Sp)(dvs:List V)(E:XK)(t:TA):TE:=λσ H Q=>t σ H λvs H1=>sp (vs++dvs) H1 Q E
def Binds(K:PySem.W.Frag)(fd:FuncData)(ps:List Str)(ds:List Value):Prop:=
 ∀(s:Shared) (us:List Value),K.In s.heap->(us++ds).length=ps.length->BindsTo s fd ⟨us,[]⟩ (ps.zip (us++ds))
theorem Binds.all{K:PySem.W.Frag}{fd:FuncData}{ps:List Str}(h:∀us:List Value,us.length=ps.length->bindArgs fd ⟨us,[]⟩=pure (ps.zip us)):Binds K fd ps []:=λs us _ hl=>by
 rw[List.append_nil]at hl ⊢;exact .of_eq (h us hl)
def C1(CX:CXT)(X:Cx)(E:XK):Prop:=∀(pins:List (Addr×Obj)) (σ:St) (H:Hp) (s:Shared) (e:Value) (s':Shared),Inv X pins σ H s->CX X.stack H s E e s'->X.xe e s'
section
variable{X:Cx}{CX:CXT}{k:Nat}{f C:Addr}{fd:FuncData}{ps:List Str}{sp:Sp}{dvs:List V}{ds:List Value}{E:XK}{x m:Str}{p pos apos:Pos}{e o:Expr}{es:List Expr}{ta:TE}{t:TA}
theorem i6{pins:List (Addr×Obj)}{σ:St}{H:Hp}{s:Shared}{Q:VK}{us:List Value}{vs:List V}(F:FnOk X.prog X.w X.K X.mg X.base CX k f fd ps sp)(hr:Room k X.A)(hb:Binds X.K fd ps ds)(hd:Vals dvs ds)(hx:C1 CX X E)
  (I:Inv X pins σ H s) (r:Vals vs us) (h:sp (vs++dvs) H Q E):wpAny (model X.prog X.w) X.A (call (.ref f) us) (EP X pins σ Q) X.xe s:=by
 have r2:Vals (vs++dvs) (us++ds):=r.append hd;have hl:(us++ds).length=ps.length:=by rw[<-r2.length];exact F.len _ _ _ _ h
 refine wpAny_call (codeAny_mono (F.run X.A X.stack s H ⟨us,[]⟩ (us++ds) (vs++dvs) Q E hr I.env0 (hb s us I.kIn hl) r2 h) λr s' hq=>?_);cases r with
 |error e=>exact hx pins σ H s e s' I hq
 |ok fl=>
  cases fl with
  |ret u=>exact I.after hq
  |next=>exact False.elim hq
  |brk=>exact False.elim hq
  |cont=>exact False.elim hq
theorem pe_call(F:FnOk X.prog X.w X.K X.mg X.base CX k f fd ps sp)(hr:Room k X.A)(hg:Gl X x)(hm:X.mg x=some (.ref f))(hk:PySem.W.keepIn X.K (.ref f)=true)(hb:Binds X.K fd ps ds)(hd:Vals dvs ds)(hx:C1 CX X E)
  (ha:PA X (e::es) t) (hdb:(x==("__debug__":Str))=false:=by decide) (he:starEach (e::es) X.env=(false,eval e X.env)::starEach es X.env:=by rfl) (hpl:(backTo pos (starEach es X.env)).any (·.1)=false:=by rfl):
  PE X (.Call (.Name x p) (e::es) [] pos) (tCall sp dvs E t):=by
 intro pins s σ H Q I h;refine wpAny_Call_Name_kw (ld_glob I hg hm ?_ hdb);refine PySem.W.callWith_K (h₀:=X.base) I.ok.mod.kin hk (thn (ha pos pins s σ H _ I h) λus s1 ⟨vs,H1,I1,r,q⟩=>⟨I1.kIn,?_⟩) he hpl;exact i6 F hr hb hd hx I1 r q
theorem pe_call0(F:FnOk X.prog X.w X.K X.mg X.base CX k f fd ps sp)(hr:Room k X.A)(hg:Gl X x)(hm:X.mg x=some (.ref f))(hk:PySem.W.keepIn X.K (.ref f)=true)(hb:Binds X.K fd ps ds)(hd:Vals dvs ds)(hx:C1 CX X E)
  (hdb:(x==("__debug__":Str))=false:=by decide):PE X (.Call (.Name x p) [] [] pos) (tCall sp dvs E qEA):=by
 intro pins s σ H Q I h;refine wpAny_Call_Name_kw (ld_glob I hg hm ?_ hdb);exact PySem.W.callWith_K0 I.kIn hk (i6 (us:=[]) F hr hb hd hx I .nil h)
end
structure qu(N P:List Str)(sc:Scope):Prop where
 kind:sc.kind=.function
 co:sc.isCoroutine=false
 gen:sc.isGenerator=false
 nd:N.Nodup
 pre:N.take P.length=P
 par:∀x∈P,sc.names.lookup x=some .local\/sc.names.lookup x=some .cell
 nofree:∀y∈sc.names,y.2≠.free
theorem Zc{kindOf:Str->Option NameKind}{x:Str}:∀{binds:List (Str×Value)}{m:Str->Option Value},(∀v,(x,v)∉binds)->bindL kindOf binds m x=m x
 | [],_,_=>rfl
 | (n,v)::r,m,h=>by
  unfold bindL;rw[Zc λw hw=>h w (List.mem_cons_of_mem _ hw)];split
  ·have:x≠n:=by rintro rfl;exact h v List.mem_cons_self
   simp[this]
  ·rfl
theorem ZU{kindOf:Str->Option NameKind}{x:Str}:∀{binds:List (Str×Value)}{m:Str->Option Value},(∀v,(x,v)∉binds)->bindC kindOf binds m x=m x
 | [],_,_=>rfl
 | (n,v)::r,m,h=>by
  unfold bindC;rw[ZU λw hw=>h w (List.mem_cons_of_mem _ hw)];split
  ·rfl
  ·have:x≠n:=by rintro rfl;exact h v List.mem_cons_self
   simp[this]
theorem Zo{kindOf:Str->Option NameKind}{x:Str}{v:Value}:∀{P:List Str}{vs:List Value}{i:Nat}{m:Str->Option Value},P.Nodup->P[i]?=some x->vs[i]?=some v->kindOf x=some .local ->
  bindL kindOf (P.zip vs) m x=some v
 | [],_,_,_,_,h,_,_=>by simp at h
 |_::_,[],_,_,_,_,h,_=>by simp at h
 |p::P,w::vs,0,m,nd,h1,h2,hk=>by
  simp at h1 h2;subst h1;subst h2;show bindL kindOf ((p,w)::P.zip vs) m p=_;unfold bindL;rw[Zc λv hv=>(wy.mp nd).1 (List.of_mem_zip hv).1,if_pos hk];simp
 |p::P,w::vs,i+1,m,nd,h1,h2,hk=>by
  show bindL kindOf ((p,w)::P.zip vs) m x=_;unfold bindL;exact Zo (i:=i) (wy.mp nd).2 (by simpa using h1) (by simpa using h2) hk
theorem Zx{kindOf:Str->Option NameKind}{x:Str}{v:Value}:∀{P:List Str}{vs:List Value}{i:Nat}{m:Str->Option Value},P.Nodup->P[i]?=some x->vs[i]?=some v->kindOf x≠some .local ->
  bindC kindOf (P.zip vs) m x=some v
 | [],_,_,_,_,h,_,_=>by simp at h
 |_::_,[],_,_,_,_,h,_=>by simp at h
 |p::P,w::vs,0,m,nd,h1,h2,hk=>by
  simp at h1 h2;subst h1;subst h2;show bindC kindOf ((p,w)::P.zip vs) m p=_;unfold bindC;rw[ZU λv hv=>(wy.mp nd).1 (List.of_mem_zip hv).1,if_neg hk];simp
 |p::P,w::vs,i+1,m,nd,h1,h2,hk=>by
  show bindC kindOf ((p,w)::P.zip vs) m x=_;unfold bindC;exact Zx (i:=i) (wy.mp nd).2 (by simpa using h1) (by simpa using h2) hk
noncomputable def start(N:List Str)(vs:List V):St:=vs.map some++List.replicate (N.length-vs.length) none
noncomputable def cxOf(CX:CXT)(P:Program)(w:World)(K:PySem.W.Frag)(mg:Str->Option Value)(base:Heap)(N:List Str)(qual:Str)(scope:Scope)(f:Addr)(cd:Value)(A:Around)(outer:List Env)(s:Shared)(H:Hp)(E:XK):Cx where
 prog:=P
 w:=w
 K:=K
 mg:=mg
 base:=base
 A:=A.deeper (envOfC qual scope s.heap.objs.size f cd)
 N:=N
 s₀:=s
 H₀:=H
 env:=envOfC qual scope s.heap.objs.size f cd
 outer:=outer
 stack:=envOfC qual scope s.heap.objs.size f cd::outer
 ex:=[]
 calm:=true
 fn:=λ_=>true
 pn:=[]
 xe:=λe s'=>wpAny (model P w) (A.deeper (envOfC qual scope s.heap.objs.size f cd)) (leaving (envOfC qual scope s.heap.objs.size f cd) e) (λ_ s''=>CX outer H s E e s'') (λe' s''=>CX outer H s E e' s'') s'
theorem C7{sc:Scope}{n:Nat}{x:Str}(h:sc.names.lookup x=some .cell):∃c,(cellsFrom n sc.names []).lookup x=some c:=by
 have q:=PySem.W.cellsFrom_some sc.names n [] (.inl h);exact Option.isSome_iff_exists.mp q
theorem Q0{CX:CXT}{P:Program}{w:World}{K:PySem.W.Frag}{mg:Str->Option Value}{base:Heap}{N ps:List Str}{qual:Str}{scope:Scope}{f:Addr}{cd:Value}{A:Around}{outer:List Env}{s s1:Shared}{H:Hp}{E:XK}{us:List Value}{vs:List V}
  (S:qu N ps scope) (hd:A.handled=none) (e0:Env0 P w K mg base A outer s H) (hl:vs.length=ps.length) (r:Vals vs us)
  (x:InCallC s s.heap.objs.size (bindL (envOfC qual scope s.heap.objs.size f cd).kindOf (ps.zip us) λ_=>none) (cellsFrom (s.heap.objs.size+1) scope.names []) (bindC (envOfC qual scope s.heap.objs.size f cd).kindOf (ps.zip us) λ_=>none) s1):
  Inv (cxOf CX P w K mg base N qual scope f cd A outer s H E) [] (start N vs) H s1:=by
 have hpl:ps.length<=N.length:=by have:=congrArg List.length S.pre;rw[wU]at this;omega
 obtain⟨h1,tk,rfl,hk⟩:=x.done;have noA:∀b:Addr,b∉(cxOf CX P w K mg base N qual scope f cd A outer s H E).ex:=λb z=>absurd (show b∈([]:List Addr) from z) (by simp);refine⟨⟨e0.mod,S.kind,rfl,rfl,Nat.le_refl _,λy z c h1 h2=>?_,λy hy=>?_,λy c _ h=>?_,λ_=>hd,Around.frames_deeper e0.frames,.inr ⟨rfl,rfl⟩,λb z=>absurd z (noA b),e0.bs,e0.bsz,λb _ _=>noA b,λb z=>absurd z (noA b),e0.funs,e0.frf⟩,
  rfl,e0.bare,Un.kept hk,⟨_,x.toInCall.ns,λi y v h1 h2 h3=>?_⟩,λy c h=>⟨_,x.cell y c h⟩,e0.hok.fresh (Nat.le_refl _),λy c h=>?_,λp hp=>absurd (show p∈([]:List (Addr×Obj)) from hp) (by simp),e0.hok.kept hk,?_⟩
 ·exact name_of_addr x.apart (PySem.mem_of_lookup h1) (PySem.mem_of_lookup h2)
 ·have hy:scope.names.lookup y=some .cell\/scope.names.lookup y=some .free:=hy;rcases hy with hy|hy
  ·exact C7 hy
  ·exact absurd rfl (S.nofree _ (PySem.mem_of_lookup hy))
 ·exact wk (x.above y c (PySem.mem_of_lookup h))
 ·have hi:i<vs.length:=by
   unfold start at h2;by_cases hi:i<vs.length
   ·exact hi
   ·rw[List.getElem?_append_right (by simpa using hi)]at h2;rw[List.getElem?_replicate]at h2;split at h2<;>cases h2
  have ha:vs[i]?=some v:=by
   unfold start at h2;rw[List.getElem?_append_left (by simpa using hi),wK]at h2;cases e:vs[i]? with
   |none=>rw[e]at h2;cases h2
   |some a=>rw[e]at h2;cases h2;rfl
  obtain⟨u,hu,rv⟩:=r.get ha;have hp:ps[i]?=some y:=by
   rw[<-S.pre,wP (by omega)];exact h1
  have ndP:ps.Nodup:=by rw[<-S.pre];exact S.nd.sublist (List.take_sublist _ _)
  refine⟨u,rv,?_⟩;rcases S.par y (List.mem_of_getElem? hp) with k|k
  ·exact .inl ⟨k,Zo ndP hp hu k⟩
  ·obtain⟨c,e⟩:=C7 (n:=s.heap.objs.size+1) k;refine .inr ⟨.inl k,c,e,?_⟩;have q:=x.cell y c e;rw[Zx ndP hp hu (by show scope.names.lookup y≠_;rw[k];decide)]at q;exact q
 ·exact e0.hok.fresh (wk (x.above y c (PySem.mem_of_lookup h)))
 ·unfold start;show _=N.length;rw[List.length_append,wL,List.length_replicate];omega
theorem fn_of{CX:CXT}{P:Program}{w:World}{K:PySem.W.Frag}{mg:Str->Option Value}{base:Heap}{k:Nat}{f:Addr}{name qual:Str}{params:Arguments}{body:List Stmt}{scope:Scope}{dV kV doc pm cdv ct oc:Value}{an od:Option Addr}
  {osl:Array (Option Value)}{N ps:List Str}{sp:Sp}(lk:K.lookup f=some ⟨oc,od,.func (PySem.W.fnOf name qual params body scope dV kV doc pm an cdv ct),osl⟩) (hcd:PySem.W.codeIn K cdv qual=true) (S:qu N ps scope)
  (len:∀vs H Q E,sp vs H Q E->vs.length=ps.length)
  (hbody:∀(A:Around) (outer:List Env) (s:Shared) (H:Hp) (vs:List V) (Q:VK) (E:XK),Room k (A.deeper (envOfC qual scope s.heap.objs.size f cdv))->sp vs H Q E ->
   ∃t,PSs (cxOf CX P w K mg base N qual scope f cdv A outer s H E) body t/\t { nx:=λ_ H'=>Q .non H',rt:=Q } (start N vs) H):
  FnOk P w K mg base CX (k+1) f (PySem.W.fnOf name qual params body scope dV kV doc pm an cdv ct) ps sp:=by
 refine⟨len,λA outer s H args us vs Q E hr e0 hb r hsp=>?_⟩;have hl:=len _ _ _ _ hsp;have KX:K.In s.heap:=e0.mod.kin.keeps λb o e=>(e0.bs b o e).1;have lim:s.heap.NoLimit:=e0.mod.nolimit.keeps λb o e=>(e0.bs b o e).1;have hkind:∀y∈ps.zip us,scope.names.lookup y.1=some .local\/(scope.names.lookup y.1=some .cell/\((cellsFrom (s.heap.objs.size+1) scope.names []).lookup y.1).isSome=true):=λ⟨n,v⟩ hy=>by
  rcases S.par n (List.of_mem_zip hy).1 with q|q
  ·exact .inl q
  ·exact .inr ⟨q,PySem.W.cellsFrom_some _ _ _ (.inl q)⟩
 refine codeAny_call_function hr.depth (KX _ _ lk) rfl S.co S.gen rfl (PySem.W.codeRec_of KX hcd) (hb _ _ _ _ ?_);refine wpAny_newFunctionEnv_cells S.kind hkind λenv he s1 x=>?_;subst he;refine⟨lim.keeps x.toInCall.keep,codeAny_func ?_⟩;obtain⟨t,ht,hq⟩:=hbody A outer s H vs Q E (hr.deeper _) hsp;have I:Inv (cxOf CX P w K mg base N qual scope f cdv A outer s H E) [] (start N vs) H s1:=Q0 S hr.hd e0 hl r x;refine wpAny_mono (ht [] s1 (start N vs) H _ I hq) (λfl s' hs=>?_) λe s' hs=>hs;have fin:∀{σ':St}{H':Hp}{v:V}{u:Value},Inv (cxOf CX P w K mg base N qual scope f cdv A outer s H E) [] σ' H' s'->RelV v u->Q v H'->CE outer P w H s Q u s':=
  λ{σ' H' v u} J rv q=>⟨v,H',J.os,J.bare,J.base,J.hok,rv,q⟩
 cases fl with
 |ret u=>
  obtain⟨v,σ',H',J,rv,q⟩:=hs;exact fin J rv q
 |next=>
  obtain⟨σ',H',J,q⟩:=hs;exact fin (v:=V.non) (u:=Value.none) J rfl q
 |brk=>
  obtain⟨_,_,_,q⟩:=hs;exact False.elim q
 |cont=>
  obtain⟨_,_,_,q⟩:=hs;exact False.elim q
section
variable{X:Cx}{x:Str}{p pos:Pos}{e:Expr}{es:List Expr}{t:TA}{id T:String}{r:List V->Hp->VK->Prop}
noncomputable def tCB(r:List V->Hp->VK->Prop)(t:TA):TE:=λσ H Q=>t σ H λvs H1=>r vs H1 Q
theorem pe_callB(hc:qr X (.builtin id) r)(hg:Gl X x)(hm:X.mg x=none)(hv:bootBuiltins x=some (.builtin id))(ha:PA X (e::es) t)(hn:x≠"__name__":=by decide)(hdb:(x==("__debug__":Str))=false:=by decide)
  (he:starEach (e::es) X.env=(false,eval e X.env)::starEach es X.env:=by rfl) (hpl:(backTo pos (starEach es X.env)).any (·.1)=false:=by rfl):PE X (.Call (.Name x p) (e::es) [] pos) (tCB r t):=by
 intro pins s σ H Q I h;refine wpAny_Call_Name_kw (ld_blt I hg hm hv ?_ hn hdb);exact PyProof.Rows.callWith_builtin1 (thn (ha pos pins s σ H _ I h) λus s1 ⟨vs,H1,I1,r1,q1⟩=>hc pins s1 σ H1 vs us Q I1 r1 q1) he hpl
theorem pe_callTy(hc:qr X (.type T) r)(hg:Gl X x)(hm:X.mg x=none)(hv:bootBuiltins x=some (.type T))(ha:PA X (e::es) t)(hn:x≠"__name__":=by decide)(hdb:(x==("__debug__":Str))=false:=by decide)
  (he:starEach (e::es) X.env=(false,eval e X.env)::starEach es X.env:=by rfl) (hpl:(backTo pos (starEach es X.env)).any (·.1)=false:=by rfl):PE X (.Call (.Name x p) (e::es) [] pos) (tCB r t):=by
 intro pins s σ H Q I h;refine wpAny_Call_Name_kw (ld_blt I hg hm hv ?_ hn hdb);exact PyProof.Rows.callWith_type1 (thn (ha pos pins s σ H _ I h) λus s1 ⟨vs,H1,I1,r1,q1⟩=>hc pins s1 σ H1 vs us Q I1 r1 q1) he hpl
end
end L2
namespace HT
open PySem PyProof.Rows
section
variable{prog:Program}{w:World}{A:Around}{E:Value->Shared->Prop}{s:Shared}
theorem cat_tup{t b:Addr}{vs ws:List Value}{Q:Value->Shared->Prop}(ht:IsTup s.heap t vs.toArray)(hb:IsTup s.heap b ws.toArray)(hv:vs≠[])
  (h1:ws=[]->Q (.ref t) s) (h2:ws≠[]->Q (.ref s.heap.objs.size) { s with heap:=s.heap.push { cls:=.type "tuple",data:=.seq (vs++ws).toArray } })
  (hsz:vs.length+ws.length<=sizeLine):wpAny (model prog w) A (binaryOp .Add (.ref t) (.ref b)) Q E s:=by
 obtain⟨⟨cls,dd,data,sl⟩,ho,hc,n,hd⟩:=id ht;obtain⟨⟨cls2,dd2,data2,sl2⟩,ho2,hc2,n2,hd2⟩:=id hb;simp only at hc hd hc2 hd2;subst hc hd hc2 hd2;have e:vs.toArray++ws.toArray=(vs++ws).toArray:=by simp
 by_cases hw:ws=[]
 ·exact concat_meets ⟨_,ho,rfl⟩ ⟨_,ho2,rfl⟩ noFill_tuple_add seq_tuple_add PySem.F.slot_tuple_add PySem.F.entry_tuple_add (PySem.F.args_tuple_add_2 _ _)
   (tuple_addW1 t b vs.toArray ws.toArray n n2 dd dd2 sl sl2 (by simpa using hv) (by simp[hw])) ⟨ho,ho2,h1 hw⟩
 ·refine concat_meets ⟨_,ho,rfl⟩ ⟨_,ho2,rfl⟩ noFill_tuple_add seq_tuple_add PySem.F.slot_tuple_add PySem.F.entry_tuple_add (PySem.F.args_tuple_add_2 _ _)
   (tuple_addW2 t b vs.toArray ws.toArray n n2 dd dd2 sl sl2 (by simpa using hv) (by simpa using hw) (by rw[wB,wB];exact hsz)) ⟨ho,ho2,?_⟩
  rw[e];exact h2 hw
noncomputable def sIx(n d:Nat):Option Int->Nat
 |none=>d
 |some v=>if v<0 then (v+(n:Int)).toNat else min v.toNat n
theorem qBx(n d:Nat)(hd:d<=n)(o:Option Int):sIx n d o<=n:=by
 cases o with
 |none=>exact hd
 |some v=>
  show (if v<0 then (v+(n:Int)).toNat else min v.toNat n)<=n;by_cases hv:v<0
  ·rw[if_pos hv];omega
  ·rw[if_neg hv];exact Nat.min_le_right _ _
theorem G8(v:Int)(n d:Nat):(if v<0 then max (v+(n:Int)) 0 else min v (n:Int))=((sIx n d (some v):Nat):Int):=by
 show (if v<0 then max (v+(n:Int)) 0 else min v (n:Int))=(((if v<0 then (v+(n:Int)).toNat else min v.toNat n):Nat):Int);by_cases hv:v<0
 ·simp only[if_pos hv];omega
 ·simp only[if_neg hv];omega
theorem E4(lo hi:Option Int)(n:Nat):Builtin.Slice.sliceAdjust lo hi 1 (n:Int)=(((sIx n 0 lo:Nat):Int),((sIx n n hi:Nat):Int)):=by
 have h1:¬ ((1:Int)<0):=by omega
 unfold Builtin.Slice.sliceAdjust;simp only[h1,if_false];refine Prod.ext ?_ ?_
 ·cases lo with
  |none=>rfl
  |some v=>exact G8 v n 0
 ·cases hi with
  |none=>rfl
  |some v=>exact G8 v n n
theorem E6(i j:Nat):Builtin.Slice.slicePlaces (i:Int) (j:Int) 1=j-i:=by
 unfold Builtin.Slice.slicePlaces;have h1:(1:Int)>0:=by omega
 simp only[h1,if_true,Int.ediv_one];split<;>omega
theorem Ql{v:Value}{o:Option Int}{Q:Option Int->Shared->Prop}(p:IsPart v o)(h:Q o s):wpAny (model prog w) A (Builtin.Slice.slicePartIndex v) Q E s:=by
 cases p with
 |none=>exact slicePart_none h
 |int i t=>exact slicePart_int h
theorem jf{sl:Addr}{vl vu:Value}{lo hi:Option Int}{n:Nat}{Q:Int×Int×Nat->Shared->Prop}(hs:s.heap.IsSliceOf sl vl vu .none)(pl:IsPart vl lo)(pu:IsPart vu hi)
  (h:Q (((sIx n 0 lo:Nat):Int),1,sIx n n hi-sIx n 0 lo) s):wpAny (model prog w) A (Builtin.Slice.sliceApplied (.ref sl) (pure (n:Int))) Q E s:=by
 obtain⟨os,hos,hcs,hds⟩:=id hs;unfold Builtin.Slice.sliceApplied Builtin.Slice.sliceFields;refine vB (vB (wpAny_field hos hds (x:=vl) rfl (vB (wpAny_field hos hds (x:=vu) rfl (vB (wpAny_field hos hds (x:=.none) rfl (vC ?_)))))));refine vB (slicePart_none ?_);show wpAny _ _ (if ((1:Int)==0)=true then _ else _) _ _ s;rw[if_neg (by decide)];refine vB (Ql pl (vB (Ql pu (vB (vC ?_)))));show wpAny _ _ (match Builtin.Slice.sliceAdjust lo hi 1 (n:Int) with|(lo,hi)=>pure (lo,(1:Int),Builtin.Slice.slicePlaces lo hi 1)) _ _ s;rw[E4 lo hi n];show wpAny _ _ (pure (((sIx n 0 lo:Nat):Int),(1:Int),Builtin.Slice.slicePlaces ((sIx n 0 lo:Nat):Int) ((sIx n n hi:Nat):Int) 1)) _ _ s;rw[E6];exact vC h
theorem T5(xs:Array Value)(i k:Nat):((List.range k).filterMap λ(m:Nat)=>xs[((i:Int)+(m:Int)*1).toNat]?).toArray=((xs.toList.drop i).take k).toArray:=by
 have e:(λ(m:Nat)=>xs[((i:Int)+(m:Int)*1).toNat]?)=λm=>xs[i+m]?:=by
  funext m
  have:((i:Int)+(m:Int)*1).toNat=i+m:=by omega
  rw[this]
 rw[e];have:=pick_run xs i k;rw[List.filterMap_map]at this;have e2:((λx=>xs[x]?)∘λx=>i+x)=λm=>xs[i+m]?:=rfl;rw[e2]at this;rw[this]
theorem getItem_tuple_cut{t sl:Addr}{items:Array Value}{vl vu:Value}{lo hi:Option Int}{Q:Value->Shared->Prop}(ht:IsTup s.heap t items)(hs:s.heap.IsSliceOf sl vl vu .none)(pl:IsPart vl lo)(pu:IsPart vu hi)
  (hw:¬ (sIx items.size 0 lo=0/\sIx items.size items.size hi=items.size))
  (h:Q (.ref s.heap.objs.size) { s with heap:=s.heap.push { cls:=.type "tuple",data:=.seq ((items.toList.drop (sIx items.size 0 lo)).take (sIx items.size items.size hi-sIx items.size 0 lo)).toArray } })
  (hsz:items.size<=sizeLine):wpAny (model prog w) A (getItem (.ref t) (.ref sl)) Q E s:=by
 have htake:sizeOk (.seq ((items.toList.drop (sIx items.size 0 lo)).take (sIx items.size items.size hi-sIx items.size 0 lo)).toArray):=by
  show ((items.toList.drop (sIx items.size 0 lo)).take (sIx items.size items.size hi-sIx items.size 0 lo)).toArray.size<=sizeLine;rw[wB,wU,List.length_drop,Array.length_toList];omega
 have hj:sIx items.size items.size hi<=items.size:=qBx _ _ (Nat.le_refl _) hi;obtain⟨os,hos,hcs,hds⟩:=id hs;have hTs:s.TypeIs (.ref sl) "slice":=⟨os,hos,hcs⟩
 unfold getItem
 try with_reducible refine wpAny_holding ?_
 first|refine vB (vC ?_)|skip
 refine vB (wpAny_sequenceKey ht.typeIs (by decide) ?_);refine vB (wpAny_callSpecial?_slot (name:=Str.ofString "__getitem__") ht.typeIs PyProof.Rows.slot_tuple_getitem
  (wpAny_call_entry PyProof.Rows.slot_tuple_getitem ht.typeIs entry_tuple_getitem ?_ (args_tuple_getitem _ _)))
 show wpAny _ _ (Builtin.Tuple.tupleItemsOf (.ref t) >>=_) _ _ s;refine vB (tupleItemsOf_ ht ?_);refine vB (wpAny_typeOf hTs ?_);rw[if_pos (by decide)];refine vB (jf hs pl pu ?_);have hno:¬ ((((sIx items.size 0 lo:Nat):Int)==0&&(1:Int)==1&&(sIx items.size items.size hi-sIx items.size 0 lo)==items.size)=true):=by
  intro q;rw[Bool.and_eq_true,Bool.and_eq_true]at q;have q1:((sIx items.size 0 lo:Nat):Int)=0:=eq_of_beq q.1.1;have q2:sIx items.size items.size hi-sIx items.size 0 lo=items.size:=eq_of_beq q.2;exact hw ⟨by omega,by omega⟩
 show wpAny _ _ (if (((sIx items.size 0 lo:Nat):Int)==0&&(1:Int)==1&&(sIx items.size items.size hi-sIx items.size 0 lo)==items.size)=true then _ else _) _ _ s;rw[if_neg hno,T5]
 first
  |exact vB (m:=Builtin.Tuple.tupleExact _) (wpAny_newObj_type (vC ⟨_,rfl,vC h⟩) htake)
  |exact vB (m:=Builtin.Tuple.tupleExact _) (wpAny_newObj_type (vB (vC (vC ⟨_,rfl,vC h⟩))) htake)
  |exact vB (vB (m:=Builtin.Tuple.tupleExact _) (wpAny_newObj_type (vC (vC ⟨_,rfl,vC h⟩)) htake))
  |exact vB (vB (m:=Builtin.Tuple.tupleExact _) (wpAny_newObj_type (vC ⟨_,rfl,vC h⟩) htake))
end
end HT
namespace L2
open PySem PySem.Spec PyProof.Rows
noncomputable abbrev TO:=St->Hp->(Option Int->Hp->Prop)->Prop
def PO(X:Cx)(e:Option Expr)(t:TO):Prop:=
 ∀(pins:List (Addr×Obj)) (s:Shared) (σ:St) (H:Hp) (Q:Option Int->Hp->Prop),Inv X pins σ H s->t σ H Q ->
  wpAny (model X.prog X.w) X.A (evalPart e X.env) (λu s'=>∃o H',Inv X pins σ H' s'/\IsPart u o/\Q o H') X.xe s
noncomputable def v7:TO:=λ_ H Q=>Q none H
noncomputable def qDB(t:TE):TO:=λσ H Q=>t σ H λx H1=>∃i,x=.int i/\Q (some i) H1
section
variable{X:Cx}{e:Expr}{te:TE}{lo hi:Option Expr}{tl th:TO}{pos p2:Pos}
theorem po_none:PO X none v7:=by
 intro pins s σ H Q I h;rw[evalPart_none];exact vC ⟨none,H,I,.none,h⟩
theorem po_some(h:PE X e te):PO X (some e) (qDB te):=by
 intro pins s σ H Q I hw;rw[evalPart_some];refine thn (h pins s σ H _ I hw) λu s1 ⟨x,H1,I1,r1,q1⟩=>?_;obtain⟨i,rfl,q⟩:=q1;obtain⟨t,rfl⟩:=r1;exact⟨some i,H1,I1,.int i t,q⟩
def SlR(X:Cx)(r:V->Option Int->Option Int->Hp->VK->Prop):Prop:=
 ∀(pins:List (Addr×Obj)) (s:Shared) (σ:St) (H:Hp) (x:V) (v vl vu:Value) (lo hi:Option Int) (sl:Addr) (Q:VK),Inv X pins σ H s->RelV x v->s.heap.IsSliceOf sl vl vu .none->IsPart vl lo->IsPart vu hi->r x lo hi H Q ->
  ∃T id,typeLookup (.type T) "__getitem__"=pure (some (.builtin id))/\s.TypeIs v T/\wpAny (model X.prog X.w) X.A (getItem v (.ref sl)) (EP X pins σ Q) X.xe s
theorem SlR.or{r r':V->Option Int->Option Int->Hp->VK->Prop}(h:SlR X r)(h':SlR X r'):SlR X (λx lo hi H Q=>r x lo hi H Q\/r' x lo hi H Q):=by
 intro pins s σ H x v vl vu lo hi sl Q I rx hs pl pu q;rcases q with q|q
 ·exact h pins s σ H x v vl vu lo hi sl Q I rx hs pl pu q
 ·exact h' pins s σ H x v vl vu lo hi sl Q I rx hs pl pu q
noncomputable def tSl(r:V->Option Int->Option Int->Hp->VK->Prop)(te:TE)(tl th:TO):TE:=λσ H Q=>te σ H λx H1=>tl σ H1 λl H2=>th σ H2 λu H3=>r x l u H3 Q
theorem pe_slice{r:V->Option Int->Option Int->Hp->VK->Prop}(hr:SlR X r)(he:PE X e te)(hl:PO X lo tl)(hu:PO X hi th):PE X (.Subscript e (.Slice lo hi none p2) pos) (tSl r te tl th):=by
 intro pins s σ H Q I h;refine Subscript_ (thn (he pins s σ H _ I h) λv s1 ⟨x,H1,I1,r1,q1⟩=>?_);refine wpAny_Slice (thn (hl pins s1 σ H1 _ I1 q1) λvl s2 ⟨l,H2,I2,pl,q2⟩=>thn (hu pins s2 σ H2 _ I2 q2) λvu s3 ⟨u,H3,I3,pu,q3⟩=>?_);rw[evalPart_none];refine vC ?_;have I4:Inv X pins σ H3 { s3 with heap:=s3.heap.push { cls:=.type "slice",data:=.fields #[vl,vu,.none] } }:=I3.kept (t':=s3.toks) λb ob q=>Heap.get?_push_of_some _ q;obtain⟨T,id,hT,ht,hg⟩:=hr pins { s3 with heap:=s3.heap.push { cls:=.type "slice",data:=.fields #[vl,vu,.none] } } σ H3 x v vl vu l u s3.heap.objs.size Q I4 r1 (Heap.IsSliceOf.new ..) pl pu q3;show wpAny (model X.prog X.w) X.A (subscriptTail e (.Slice lo hi none p2) v (.ref s3.heap.objs.size)) (EP X pins σ Q) X.xe { s3 with heap:=s3.heap.push { cls:=.type "slice",data:=.fields #[vl,vu,.none] } };exact tail_any (ops:=[.ref s3.heap.objs.size,v]) ht hT hg (by with_unfolding_all rfl)
noncomputable def cutV(xs:List V)(lo hi:Option Int):List V:=(xs.drop (HT.sIx xs.length 0 lo)).take (HT.sIx xs.length xs.length hi-HT.sIx xs.length 0 lo)
theorem jy(xs:List V)(lo hi:Option Int):(cutV xs lo hi).length<=xs.length:=by
 unfold cutV;rw[wU,List.length_drop];omega
def qFh(K:PySem.W.Frag):V->Option Int->Option Int->Hp->VK->Prop:=λx lo hi H Q=>∃a xs,x=.ref a/\SqT K H a xs/\
 ¬ (HT.sIx xs.length 0 lo=0/\HT.sIx xs.length xs.length hi=xs.length)/\∀p,H p=none->Q (.ref p) (upd H p (.tup (cutV xs lo hi)))
theorem sl_tup:SlR X (qFh X.K):=by
 intro pins s σ H x v vl vu lo hi sl Q I rx hs pl pu h;obtain⟨a,xs,rfl,hx,hw,q⟩:=h;cases rx;obtain⟨its,r,ht,hz⟩:=I.tuple hx;have hlen:its.toArray.size=xs.length:=by rw[wB];exact r.length.symm
 refine⟨"tuple",_,PyProof.Rows.slot_tuple_getitem.lookup,ht.typeIs,?_⟩;refine HT.getItem_tuple_cut ht hs pl pu (by rw[hlen];exact hw) ?_ (by rw[hlen];exact hz);rw[hlen];refine⟨.ref s.heap.objs.size,_,I.laid (t':=s.toks) (o:=.tup (cutV xs lo hi)) (λb ob q=>Heap.get?_push_of_some _ q) (Nat.le_refl _) ?_,rfl,q _ (I.hok.fresh (Nat.le_refl _))⟩;exact⟨Nat.le_trans (jy xs lo hi) hz,_,(r.drop (HT.sIx xs.length 0 lo)).take (HT.sIx xs.length xs.length hi-HT.sIx xs.length 0 lo),IsTup.new _ _⟩
noncomputable def rCatT(K:PySem.W.Frag):R2:=λx y H Q=>∃a b xs ys,x=.ref a/\y=.ref b/\SqT K H a xs/\SqT K H b ys/\xs≠[]/\xs.length+ys.length<=sizeLine/\
 (ys=[]->Q (.ref a) H)/\(ys≠[]->∀p,H p=none->Q (.ref p) (upd H p (.tup (xs++ys))))
theorem Vals.nil_iff{xs:List V}{us:List Value}(r:Vals xs us):us=[]↔xs=[]:=by
 cases r with
 |nil=>simp
 |cons _ _=>simp
theorem op_catT:OpR X (binaryOp .Add) (rCatT X.K):=by
 intro pins s σ H x y v u Q I rx ry h;obtain⟨a,b,xs,ys,rfl,rfl,ha,hb,hx,hz,q1,q2⟩:=h;cases rx;cases ry;obtain⟨its,r1,p1,_⟩:=I.tuple ha;obtain⟨its2,r2,p2,_⟩:=I.tuple hb;refine HT.cat_tup p1 p2 (λz=>hx (r1.nil_iff.mp z)) (λz=>⟨.ref a,H,I,rfl,q1 (r2.nil_iff.mp z)⟩) (λz=>?_) (by rw[<-r1.length,<-r2.length];exact hz);refine⟨.ref s.heap.objs.size,_,I.laid (t':=s.toks) (o:=.tup (xs++ys)) (λb ob q=>Heap.get?_push_of_some _ q) (Nat.le_refl _) ?_,rfl,q2 (λw=>z (r2.nil_iff.mpr w)) _ (I.hok.fresh (Nat.le_refl _))⟩;exact⟨by rw[List.length_append];exact hz,_,r1.append r2,IsTup.new _ _⟩
end
noncomputable def ixN(n:Nat)(i:Int):Option Nat:=if 0<=i then (if i<n then some i.toNat else none) else if -(n:Int)<=i then some (i+n).toNat else none
noncomputable def atI{α:Type}(xs:List α)(i:Int):Option α:=(ixN xs.length i).bind λj=>xs[j]?
theorem ixN_seq{n:Nat}{i:Int}{j:Nat}(h:ixN n i=some j):seqIndex? i n=some j/\j<n/\-(n:Int)<=i/\i<n:=by
 unfold ixN at h;by_cases h0:0<=i
 ·rw[if_pos h0]at h;by_cases h1:i<n
  ·rw[if_pos h1]at h;have e:i.toNat=j:=Option.some.inj h;exact⟨by rw[seqIndex_of h0 h1,e],by omega,by omega,h1⟩
  ·rw[if_neg h1]at h;cases h
 ·rw[if_neg h0]at h;by_cases h1:-(n:Int)<=i
  ·rw[if_pos h1]at h;have e:(i+n).toNat=j:=Option.some.inj h;exact⟨by rw[seqIndex_neg (by omega) h1,e],by omega,h1,by omega⟩
  ·rw[if_neg h1]at h;cases h
theorem M9{α:Type}{xs:List α}{i:Int}{v:α}(h:atI xs i=some v):∃j,seqIndex? i xs.length=some j/\xs[j]?=some v/\j<xs.length/\-(xs.length:Int)<=i/\i<xs.length:=by
 unfold atI at h;cases e:ixN xs.length i with
 |none=>rw[e]at h;cases h
 |some j=>
  rw[e]at h;obtain⟨h1,h2,h3,h4⟩:=ixN_seq e;exact⟨j,h1,h,h2,h3,h4⟩
def PlainIx(b:Expr):Prop:=∀o i,subscripted b false o i=operate [o,i] (getItem o i)
def IxR(X:Cx)(r:R2):Prop:=
 ∀(value slice:Expr) (pins:List (Addr×Obj)) (s:Shared) (σ:St) (H:Hp) (x y:V) (v u:Value) (Q:VK),Inv X pins σ H s->RelV x v->RelV y u->r x y H Q ->
  subscripted slice false v u=operate [v,u] (getItem v u)->wpAny (model X.prog X.w) X.A (subscriptTail value slice v u) (EP X pins σ Q) X.xe s
def MtR(X:Cx)(id:String)(r:V->List V->Hp->VK->Prop):Prop:=
 ∀(pins:List (Addr×Obj)) (s:Shared) (σ:St) (H:Hp) (x:V) (xs:List V) (v:Value) (us:List Value) (Q:VK),Inv X pins σ H s->RelV x v->Vals xs us->r x xs H Q ->
  wpAny (model X.prog X.w) X.A (call (.builtin id) (v::us)) (EP X pins σ Q) X.xe s
section
variable{X:Cx}{a b:Expr}{ta tb:TE}{pos:Pos}
theorem IxR.or{r r':R2}(h:IxR X r)(h':IxR X r'):IxR X (λx y H Q=>r x y H Q\/r' x y H Q):=by
 intro value slice pins s σ H x y v u Q I rx ry q hs;rcases q with q|q
 ·exact h value slice pins s σ H x y v u Q I rx ry q hs
 ·exact h' value slice pins s σ H x y v u Q I rx ry q hs
theorem pe_ix{r:R2}(hr:IxR X r)(ha:PE X a ta)(hb:PE X b tb)(hs:PlainIx b):PE X (.Subscript a b pos) (tOp r ta tb):=by
 intro pins s σ H Q I h;exact Subscript_ (zJ ha hb I h λv u s2 x y H2 I2 rx ry q=>hr a b pins s2 σ H2 x y v u Q I2 rx ry q (hs _ _))
noncomputable def qFJ(K:PySem.W.Frag):R2:=λx y H Q=>∃p xs i v,x=.ref p/\y=.int i/\SqL K H p xs/\atI xs i=some v/\Q v H
noncomputable def qE3(K:PySem.W.Frag):R2:=λx y H Q=>∃p xs i v,x=.ref p/\y=.int i/\SqT K H p xs/\atI xs i=some v/\Q v H
theorem ix_list:IxR X (qFJ X.K):=by
 intro value slice pins s σ H x y v u Q I rx ry h hs;obtain⟨p,xs,i,z,rfl,rfl,hq,he,q⟩:=h;cases rx;obtain⟨t,rfl⟩:=ry;obtain⟨its,r,pl,hz⟩:=I.list hq;obtain⟨j,h1,h2,h3,h4,h5⟩:=M9 he;obtain⟨w,ew,rw'⟩:=r.get h2;have hl:=r.length;have hn:=B0;have fin:EP X pins σ Q w s:=⟨z,H,I,rw',q⟩
 by_cases h0:0<=i
 ·have hj:i.toNat=j:=by
   rw[seqIndex_of h0 h5]at h1;exact Option.some.inj h1
  exact item_listR pl.isList h0 (by omega) (by rw[hj];simpa using ew) fin hs
 ·have hj:(i+(its.toArray.size:Int)).toNat=j:=by
   rw[seqIndex_neg (by omega) h4]at h1;rw[wB,<-hl];exact Option.some.inj h1
  exact subscriptTail_builtinR (x:=w) pl.isList.typeIs slot_list_getitem.lookup
   (wpAny_getItem_list_neg (Q:=λr s'=>r=w/\EP X pins σ Q r s') pl.isList (by omega) (by rw[wB]<;>omega) (by omega) (by rw[hj];simpa using ew) ⟨rfl,fin⟩) hs
theorem ix_tup:IxR X (qE3 X.K):=by
 intro value slice pins s σ H x y v u Q I rx ry h hs;obtain⟨p,xs,i,z,rfl,rfl,hq,he,q⟩:=h;cases rx;obtain⟨t,rfl⟩:=ry;obtain⟨its,r,pl,hz⟩:=I.tuple hq;obtain⟨j,h1,h2,h3,h4,h5⟩:=M9 he;obtain⟨w,ew,rw'⟩:=r.get h2;have hl:=r.length;have hn:=B0;have fin:EP X pins σ Q w s:=⟨z,H,I,rw',q⟩
 exact subscriptTail_builtinR (x:=w) pl.typeIs slot_tuple_getitem.lookup
  (getItem_tuple (j:=j) (Q:=λr s'=>r=w/\EP X pins σ Q r s') pl (by omega) (by omega) (by rw[wB,<-hl];exact h1) (by simpa using ew) ⟨rfl,fin⟩) hs
theorem D7(its:List Value)(n j:Nat)(u:Value):Obj.mapSeq (·.setIfInBounds j u) { cls:=.type "list",data:=.seq its.toArray n }={ cls:=.type "list",data:=.seq (its.set j u).toArray n }:=by
 simp[Obj.mapSeq]
theorem Inv.lst{pins:List (Addr×Obj)}{σ:St}{H:Hp}{s:Shared}{p:Addr}{xs:List V}(I:Inv X pins σ H s)(h:H p=some (.lst xs)):
  ∃(its:List Value) (n:Nat),Vals xs its/\s.heap.get? p=some { cls:=.type "list",data:=.seq its.toArray n }/\xs.length<=sizeLine:=by
 obtain⟨z,its,n,r,e⟩:=I.hok p _ h;exact⟨its,n,r,e,z⟩
theorem Inv.lstUpd{pins:List (Addr×Obj)}{σ:St}{H:Hp}{s:Shared}{p:Addr}{xs ys:List V}{its its':List Value}{n n':Nat}{f:Obj->Obj}(I:Inv X pins σ H s)(h:H p=some (.lst xs))
  (ho:s.heap.get? p=some { cls:=.type "list",data:=.seq its.toArray n }) (hf:f { cls:=.type "list",data:=.seq its.toArray n }={ cls:=.type "list",data:=.seq its'.toArray n' }) (r:Vals ys its') (hz:ys.length<=sizeLine) (t:Nat):
  Inv X pins σ (upd H p (.lst ys)) { s with heap:=s.heap.update p f,toks:=t }:=by
 have e:(s.heap.update p f).get? p=some { cls:=.type "list",data:=.seq its'.toArray n' }:=by
  rw[Heap.get?_update_self f ho (by rw[hf]<;>rfl),hf]
 refine I.write (x:=p) (e:=p) (by rw[h];trivial) (.inl rfl) (λb u hb q=>(Heap.get?_update_other _ _ (Ne.symm hb)).trans q) ⟨_,e⟩ ?_;exact⟨hz,its',n',r,e⟩
def rSetL:V->V->V->Hp->(Hp->Prop)->Prop:=λo i v H Q=>∃p xs k j,o=.ref p/\i=.int k/\H p=some (.lst xs)/\ixN xs.length k=some j/\Q (upd H p (.lst (xs.set j v)))
theorem set_list:PSet X rSetL:=by
 intro pins s σ H o i v ov iv u Q I ro ri rv h;obtain⟨p,xs,k,j,rfl,rfl,hp,hj,q⟩:=h;cases ro;obtain⟨t,rfl⟩:=ri;obtain⟨its,n,r,ho,hz⟩:=I.lst hp;obtain⟨h1,h2,h3,h4⟩:=ixN_seq hj;have hl:=r.length;have hn:=B0;have I':Inv X pins σ (upd H p (.lst (xs.set j v))) { s with heap:=s.heap.update p (Obj.mapSeq (·.setIfInBounds j u)) }:=
  I.lstUpd hp ho (D7 its n j u) (r.set rv j) (by rw[List.length_set];exact hz) s.toks
 by_cases h0:0<=k
 ·have hk:k.toNat=j:=by
   rw[seqIndex_of h0 h4]at h1;exact Option.some.inj h1
  exact PySem.W.ki_setAt ho h0 (by omega) (by rw[wB,<-hl];exact h4) (by rw[hk];exact⟨_,I',q⟩)
 ·have hk:(k+(its.toArray.size:Int)).toNat=j:=by
   rw[seqIndex_neg (by omega) h3]at h1;rw[wB,<-hl];exact Option.some.inj h1
  exact PySem.W.ki_setBack ho (by omega) (by rw[wB,<-hl];exact h3) (by omega) (by rw[hk];exact⟨_,I',q⟩)
theorem ZV(lo hi:Option Int)(n:Nat):(sliceBounds lo hi none n).1=((HT.sIx n 0 lo:Nat):Int)/\(sliceBounds lo hi none n).2.1=((HT.sIx n n hi:Nat):Int)/\(sliceBounds lo hi none n).2.2=1:=by
 refine⟨?_,?_,rfl⟩
 ·cases lo with
  |none=>simp[sliceBounds,HT.sIx]
  |some i=>
   simp only[sliceBounds,HT.sIx,Option.getD_none,show (1:Int)>0 by decide,if_true];by_cases h:i<0
   ·simp only[h,if_true]<;>omega
   ·simp only[h,if_false]<;>omega
 ·cases hi with
  |none=>simp[sliceBounds,HT.sIx]
  |some i=>
   simp only[sliceBounds,HT.sIx,Option.getD_none,show (1:Int)>0 by decide,if_true];by_cases h:i<0
   ·simp only[h,if_true]<;>omega
   ·simp only[h,if_false]<;>omega
theorem Qx(its:List Value)(lo hi:Option Int):slicePick its.toArray lo hi none=((its.drop (HT.sIx its.length 0 lo)).take (HT.sIx its.length its.length hi-HT.sIx its.length 0 lo)).toArray:=by
 obtain⟨h1,h2,h3⟩:=ZV lo hi its.toArray.size;unfold slicePick;rw[h1,h2,h3];simp only[sliceRange_one,pick_run,wB]<;>rfl
def qFe(K:PySem.W.Frag):V->Option Int->Option Int->Hp->VK->Prop:=λx lo hi H Q=>∃a xs,x=.ref a/\SqL K H a xs/\∀p,H p=none->Q (.ref p) (upd H p (.lst (cutV xs lo hi)))
theorem sl_list:SlR X (qFe X.K):=by
 intro pins s σ H x v vl vu lo hi sl Q I rx hs pl pu h;obtain⟨a,xs,rfl,hx,q⟩:=h;cases rx;obtain⟨its,r,ht,hz⟩:=I.list hx;have hlen:=r.length;refine⟨"list",_,slot_list_getitem.lookup,ht.isList.typeIs,?_⟩;refine wpAny_getItem_list_slice ht.isList hs pl pu .none (by simp) ?_ (by rw[wB]<;>omega);rw[Qx,<-hlen];refine⟨.ref s.heap.objs.size,_,I.laid (t':=s.toks) (o:=.lst (cutV xs lo hi)) (λb ob q=>Heap.get?_push_of_some _ q) (Nat.le_refl _) ?_,rfl,q _ (I.hok.fresh (Nat.le_refl _))⟩;exact⟨Nat.le_trans (jy xs lo hi) hz,_,0,(r.drop (HT.sIx xs.length 0 lo)).take (HT.sIx xs.length xs.length hi-HT.sIx xs.length 0 lo),Heap.get?_push_size _ rfl⟩
noncomputable def flatV:V->Bool
 | .non=>true
 | .bl _=>true
 | .int _=>true
 | .str _=>true
 |_=>false
noncomputable def eqV:V->V->Bool
 | .non,.non=>true
 | .bl a,.bl b=>a==b
 | .bl a,.int b=>(if a then 1 else 0)==b
 | .int a,.bl b=>a==(if b then 1 else 0)
 | .int a,.int b=>a==b
 | .str a,.str b=>a==b
 |_,_=>false
theorem qCJ{A:Around}{s:Shared}{y x:V}{u v:Value}(ry:RelV y u)(rx:RelV x v)(fy:flatV y=true)(fx:flatV x=true):SeqAt.EqAt A s u v (eqV y x):=by
 cases y with
 |non=>
  cases ry;cases x with
  |non=>cases rx;exact SeqAt.EqAt.same _
  |bl b=>cases rx;exact SeqAt.EqAt.none_bool b
  |int b=>obtain⟨t,rfl⟩:=rx;exact SeqAt.EqAt.none_int b t
  |str b=>obtain⟨t,rfl⟩:=rx;exact SeqAt.EqAt.none_str b t
  |_=>exact absurd (show false=true from fx) wT
 |bl a=>
  cases ry;cases x with
  |non=>cases rx;exact SeqAt.EqAt.bool_none a
  |bl b=>cases rx;exact SeqAt.EqAt.bool_bool a b
  |int b=>obtain⟨t,rfl⟩:=rx;exact SeqAt.EqAt.bool_int a b t
  |str b=>obtain⟨t,rfl⟩:=rx;exact SeqAt.EqAt.bool_str a b t
  |_=>exact absurd (show false=true from fx) wT
 |int a=>
  obtain⟨t',rfl⟩:=ry;cases x with
  |non=>cases rx;exact SeqAt.EqAt.int_none a t'
  |bl b=>cases rx;exact SeqAt.EqAt.int_bool a t' b
  |int b=>obtain⟨t,rfl⟩:=rx;exact SeqAt.EqAt.int_int a t' b t
  |str b=>obtain⟨t,rfl⟩:=rx;exact SeqAt.EqAt.int_str a t' b t
  |_=>exact absurd (show false=true from fx) wT
 |str a=>
  obtain⟨t',rfl⟩:=ry;cases x with
  |non=>cases rx;exact SeqAt.EqAt.str_none a t'
  |bl b=>cases rx;exact SeqAt.EqAt.str_bool a t' b
  |int b=>obtain⟨t,rfl⟩:=rx;exact SeqAt.EqAt.str_int a t' b t
  |str b=>obtain⟨t,rfl⟩:=rx;exact SeqAt.EqAt.str_str a t' b t
  |_=>exact absurd (show false=true from fx) wT
 |_=>exact absurd (show false=true from fy) wT
noncomputable def eqU(x:V)(u:Value):Bool:=match u with
 | .none=>eqV .non x
 | .bool b=>eqV (.bl b) x
 | .int i _=>eqV (.int i) x
 | .str z _=>eqV (.str z) x
 |_=>false
theorem k7{x y:V}{u:Value}(r:RelV y u)(f:flatV y=true):eqU x u=eqV y x:=by
 cases y with
 |non=>cases r;rfl
 |bl b=>cases r;rfl
 |int i=>obtain⟨t,rfl⟩:=r;rfl
 |str z=>obtain⟨t,rfl⟩:=r;rfl
 |_=>exact absurd (show false=true from f) wT
theorem QQ{x:V}:∀{xs:List V}{us:List Value},Vals xs us->xs.all flatV=true->us.any (eqU x)=xs.any λy=>eqV y x
 |_,_,.nil,_=>rfl
 |y::xs,u::us,.cons r t,f=>by
  rw[List.all_cons,Bool.and_eq_true]at f;rw[List.any_cons,List.any_cons,k7 r f.1,QQ t f.2]
theorem jM{A:Around}{s:Shared}{x:V}{v:Value}(rx:RelV x v)(fx:flatV x=true):∀{xs:List V}{us:List Value},Vals xs us->xs.all flatV=true->∀u∈us,SeqAt.EqAt A s u v (eqU x u)
 |_,_,.nil,_=>λu hu=>by cases hu
 |y::xs,u::us,.cons r t,f=>λu' hu=>by
  rw[List.all_cons,Bool.and_eq_true]at f;rcases List.mem_cons.mp hu with rfl|hu
  ·rw[k7 r f.1];exact qCJ r rx f.1 fx
  ·exact jM rx fx t f.2 u' hu
noncomputable def inV(x:V)(xs:List V):Bool:=xs.any λy=>eqV y x
noncomputable def rIn(K:PySem.W.Frag)(neg:Bool):R2:=λx y H Q=>∃p xs,y=.ref p/\(SqL K H p xs\/SqT K H p xs)/\flatV x=true/\xs.all flatV=true/\Q (.bl (if neg then !inV x xs else inV x xs)) H
theorem op_in_seq:OpR X (compareOp .In) (rIn X.K false):=by
 intro pins s σ H x y v u Q I rx ry h;obtain⟨p,xs,rfl,hq,fx,fs,q⟩:=h;cases ry;rcases hq with hq|hq
 ·obtain⟨its,r,pl,hz⟩:=I.list hq;refine SeqAt.in_listAt (eqU x) pl.isList (λw hw=>jM rx fx r fs w (by simpa using hw)) ⟨.bl _,H,I,rfl,?_⟩;rw[show its.toArray.any (eqU x)=its.any (eqU x) by simp,QQ r fs];exact q
 ·obtain⟨its,r,pl,hz⟩:=I.tuple hq;refine SeqAt.in_tupleAt (eqU x) pl (λw hw=>jM rx fx r fs w (by simpa using hw)) ⟨.bl _,H,I,rfl,?_⟩;rw[show its.toArray.any (eqU x)=its.any (eqU x) by simp,QQ r fs];exact q
theorem op_notIn_seq:OpR X (compareOp .NotIn) (rIn X.K true):=by
 intro pins s σ H x y v u Q I rx ry h;obtain⟨p,xs,rfl,hq,fx,fs,q⟩:=h;cases ry;rcases hq with hq|hq
 ·obtain⟨its,r,pl,hz⟩:=I.list hq;refine SeqAt.notIn_listAt (eqU x) pl.isList (λw hw=>jM rx fx r fs w (by simpa using hw)) ⟨.bl _,H,I,rfl,?_⟩;rw[show its.toArray.any (eqU x)=its.any (eqU x) by simp,QQ r fs];exact q
 ·obtain⟨its,r,pl,hz⟩:=I.tuple hq;refine SeqAt.notIn_tupleAt (eqU x) pl (λw hw=>jM rx fx r fs w (by simpa using hw)) ⟨.bl _,H,I,rfl,?_⟩;rw[show its.toArray.any (eqU x)=its.any (eqU x) by simp,QQ r fs];exact q
theorem call_len_seq:qr X (.builtin "len") (λxs H Q=>∃p ys,xs=[.ref p]/\(SqL X.K H p ys\/SqT X.K H p ys)/\Q (.int ys.length) H):=by
 intro pins s σ H xs us Q I r h;obtain⟨p,ys,rfl,hq,q⟩:=h;obtain⟨u,rfl,rx⟩:=vals1 r;cases rx;have hn:=B0;rcases hq with hq|hq
 ·obtain⟨its,r',pl,hz⟩:=I.list hq;have hlen:=r'.length;exact Calls.call_len_list pl.isList (by simp only[wB]<;>omega) ⟨.int ys.length,H,I.tok _,⟨s.toks+1,by rw[wB,hlen]⟩,q⟩
 ·obtain⟨its,r',pl,hz⟩:=I.tuple hq;have hlen:=r'.length;exact len_tuple pl (by simp only[wB]<;>omega) ⟨.int ys.length,H,I.tok _,⟨s.toks+1,by rw[wB,hlen]⟩,q⟩
theorem call_list_of:qr X (.type "list") (λxs H Q=>∃p ys,xs=[.ref p]/\(SqL X.K H p ys\/SqT X.K H p ys)/\∀l,H l=none->Q (.ref l) (upd H l (.lst ys))):=by
 intro pins s σ H xs us Q I r h;obtain⟨p,ys,rfl,hq,q⟩:=h;obtain⟨u,rfl,rx⟩:=vals1 r;cases rx;have fin:∀(its:List Value),Vals ys its->ys.length<=sizeLine->∀(h':Heap) (c':Nat),(∀b o',s.heap.get? b=some o'->h'.get? b=some o') ->
   h'.get? s.heap.objs.size=some { cls:=.type "list",dict:=none,data:=.seq its.toArray c',slots:=#[] }->EP X pins σ Q (.ref s.heap.objs.size) { s with heap:=h' }:=λits r' hz h' c' kp e=>
  ⟨.ref s.heap.objs.size,_,I.laid (t':=s.toks) kp (Nat.le_refl _) (show ObjOk X.prog X.w _ h' _ (.lst ys) from⟨hz,its,c',r',e⟩),rfl,q _ (I.hok.fresh (Nat.le_refl _))⟩
 rcases hq with hq|hq
 ·obtain⟨its,r',pl,hz⟩:=I.list hq;have hlen:=r'.length;obtain⟨o,ho,hc,n,hd⟩:=pl.isList;exact call_list_seq p (.inl rfl) ho hc hd (λh' c' kp e=>fin its r' hz h' c' kp e) (by simp only[wB]<;>omega)
 ·obtain⟨its,r',pl,hz⟩:=I.tuple hq;have hlen:=r'.length;obtain⟨o,ho,hc,n,hd⟩:=pl;exact call_list_seq p (.inr rfl) ho hc hd (λh' c' kp e=>fin its r' hz h' c' kp e) (by simp only[wB]<;>omega)
def tyV(K:PySem.W.Frag)(T:String)(x:V)(H:Hp):Prop:=match x with
 | .str _=>T="str"
 | .int _=>T="int"
 | .ref p=>(T="list"/\∃xs,SqL K H p xs)\/(T="tuple"/\∃o,K.lookup p=some o/\o.cls=.type "tuple"/\o.dict=none)\/
   (T="dict"/\((∃kvs,H p=some (.dK kvs))\/∃kvs,H p=some (.dT kvs)))\/(T="set"/\∃S n,H p=some (.set S n))
 |_=>False
theorem j0{pins:List (Addr×Obj)}{σ:St}{H:Hp}{s:Shared}{T:String}{x:V}{v:Value}(I:Inv X pins σ H s)(r:RelV x v)(ty:tyV X.K T x H):
  s.TypeIs v T/\∀a,v=.ref a->∃ob,s.heap.get? a=some ob/\ob.dict=none:=by
 cases x with
 |str z=>
  obtain⟨t,rfl⟩:=r;cases (show T="str" from ty);exact⟨typeIs_str s z t,λ_ e=>nomatch e⟩
 |int i=>
  obtain⟨t,rfl⟩:=r;cases (show T="int" from ty);exact⟨typeIs_int s i t,λ_ e=>nomatch e⟩
 |ref p=>
  cases r;rcases ty with⟨rfl,xs,hq⟩|⟨rfl,o,hk,hc,hd⟩|⟨rfl,hk⟩|⟨rfl,S,n,hk⟩
  ·obtain⟨its,_,pl,_⟩:=I.list hq;refine⟨pl.isList.typeIs,λa e=>?_⟩;cases e;obtain⟨o,n,e,c,hd,_⟩:=pl;exact⟨o,e,hd⟩
  ·refine⟨⟨o,I.kIn p o hk,hc⟩,λa e=>?_⟩;cases e;exact⟨o,I.kIn _ o hk,hd⟩
  ·have z:∃o,s.heap.get? p=some o/\o.ExactDict:=by
    rcases hk with⟨kvs,hk⟩|⟨kvs,hk⟩
    ·obtain⟨_,_,_,_,o,_,_,e,ex,_⟩:=I.hok p _ hk;exact⟨o,e,ex⟩
    ·obtain⟨_,_,_,_,o,_,_,e,ex,_⟩:=I.hok p _ hk;exact⟨o,e,ex⟩
   obtain⟨o,e,ex⟩:=z;refine⟨⟨o,e,ex.1⟩,λa e2=>?_⟩;cases e2;exact⟨o,e,ex.2.1⟩
  ·obtain⟨o,_,_,_,e,ex,_⟩:=I.hok p _ hk;refine⟨⟨o,e,ex.1⟩,λa e2=>?_⟩;cases e2;exact⟨o,e,ex.2.1⟩
 |_=>exact False.elim ty
noncomputable def tBM0(K:PySem.W.Frag)(T:String)(r:V->List V->Hp->VK->Prop)(to:TE):TE:=λσ H Q=>to σ H λx H1=>tyV K T x H1/\r x [] H1 Q
noncomputable def tBM(K:PySem.W.Frag)(T:String)(r:V->List V->Hp->VK->Prop)(to:TE)(t:TA):TE:=λσ H Q=>to σ H λx H1=>tyV K T x H1/\t σ H1 λxs H2=>r x xs H2 Q
variable{o e:Expr}{es:List Expr}{to:TE}{t:TA}{name:Str}{apos cpos:Pos}{T id:String}{r:V->List V->Hp->VK->Prop}
theorem pe_bm0(pa:PlainAttrs T)(slot:Slot T name id)(hty:typeOf (.builtin id)=pure (.type "method_descriptor"))(hm:MtR X id r)(ho:PE X o to)
  (hbase:attributeBase o name X.env (eval o X.env)=eval o X.env:=by rfl) (hline:(apos.endLine==cpos.line)=true:=by rfl):PE X (.Call (.Attribute o name apos) [] [] cpos) (tBM0 X.K T r to):=by
 intro pins s σ H Q I h;refine wpAny_Call_method0_late hbase hline (thn (ho pins s σ H _ I h) λv s1 ⟨x,H1,I1,r1,ty,q1⟩=>?_);obtain⟨h1,h2⟩:=j0 I1 r1 ty;exact⟨T,id,pa,slot,hty,h1,h2,Calls.callWith_builtin rfl (PySem.evalArgs_none (hm pins s1 σ H1 x [] v [] Q I1 r1 .nil q1))⟩
theorem pe_bm(pa:PlainAttrs T)(slot:Slot T name id)(hty:typeOf (.builtin id)=pure (.type "method_descriptor"))(hm:MtR X id r)(ho:PE X o to)(ha:PA X (e::es) t)
  (hbase:attributeBase o name X.env (eval o X.env)=eval o X.env:=by rfl)
  (hfew:((backTo cpos (starEach (e::es) X.env)).all (λx=>!x.1)&&(backToKw cpos (keywordEach [] X.env)).all (λx=>x.1.isSome)
   && decide ((e::es).length+([]:List Keyword).length+(if ([]:List Keyword).isEmpty then 0 else 1)<30))=true:=by rfl)
  (hline:(apos.endLine==cpos.line)=true:=by rfl) (hs:starEach (e::es) X.env=(false,eval e X.env)::starEach es X.env:=by rfl) (hplain:(backTo cpos (starEach es X.env)).any (·.1)=false:=by rfl):
  PE X (.Call (.Attribute o name apos) (e::es) [] cpos) (tBM X.K T r to t):=by
 intro pins s σ H Q I h;refine wpAny_Call_method_late hbase hfew hline rfl (thn (ho pins s σ H _ I h) λv s1 ⟨x,H1,I1,r1,ty,q1⟩=>?_);obtain⟨h1,h2⟩:=j0 I1 r1 ty;refine⟨T,id,pa,slot,hty,h1,h2,?_⟩;have hA:=ha cpos pins s1 σ H1 _ I1 q1;rw[hs]at hA ⊢;refine Calls.callWith_builtin (by show (false||(backTo cpos (starEach es X.env)).any (·.1))=false;rw[hplain]<;>rfl) (Calls.evalArgs_plain ?_);exact thn hA λus s2 ⟨vs,H2,I2,r2,q2⟩=>hm pins s2 σ H2 x vs v us Q I2 r1 r2 q2
end
def MtM(X:Cx)(id:String)(r:V->List V->Hp->VK->Prop):Prop:=
 ∀(pins:List (Addr×Obj)) (s:Shared) (σ:St) (H:Hp) (x:V) (xs:List V) (v:Value) (us:List Value) (Q:VK),Inv X pins σ H s->RelV x v->Vals xs us->r x xs H Q ->
  wpAny (model X.prog X.w) X.A (call (.builtin id) (v::us)) (EP X pins σ Q) X.xe s
theorem Vals.one:∀{x:V}{us:List Value},Vals [x] us->∃u,us=[u]/\RelV x u
 |_,_,.cons r .nil=>⟨_,rfl,r⟩
theorem Vals.zero:∀{us:List Value},Vals [] us->us=[]
 |_,.nil=>rfl
theorem Vals.dropLast{xs:List V}{us:List Value}(h:Vals xs us):Vals xs.dropLast us.dropLast:=by
 induction h with
 |nil=>exact .nil
 |cons r t ih=>
  cases t with
  |nil=>exact .nil
  |cons q t'=>exact .cons r ih
theorem Vals.eraseIdx:∀{xs:List V}{us:List Value}(i:Nat),Vals xs us->Vals (xs.eraseIdx i) (us.eraseIdx i)
 |_,_,_,.nil=>.nil
 |_,_,0,.cons _ t=>t
 |_,_,i+1,.cons r t=>.cons r (Vals.eraseIdx i t)
theorem Vals.reverse{xs:List V}{us:List Value}(h:Vals xs us):Vals xs.reverse us.reverse:=by
 induction h with
 |nil=>exact .nil
 |cons r t ih=>rw[wc,wc];exact Vals.append ih (.cons r .nil)
theorem Vals.rep{xs:List V}{us:List Value}(h:Vals xs us):∀k:Nat,Vals (List.replicate k xs).flatten (List.replicate k us).flatten
 | 0=>.nil
 |k+1=>by
  rw[List.replicate_succ,List.replicate_succ,List.flatten_cons,List.flatten_cons];exact Vals.append h (Vals.rep h k)
theorem D4{α:Type}(l:List α):l.eraseIdx (l.length-1)=l.dropLast:=by
 induction l with
 |nil=>rfl
 |cons a r ih=>
  cases r with
  |nil=>rfl
  |cons b r=>
   have e:(a::b::r).length-1=((b::r).length-1)+1:=by
    have h1:(a::b::r).length=r.length+2:=rfl;have h2:(b::r).length=r.length+1:=rfl;omega
   rw[e,List.eraseIdx_cons_succ,ih]
   all_goals rfl
theorem JA{α:Type}:∀(l:List α) (i:Nat),(l.eraseIdx i).length<=l.length
 | [],_=>Nat.le_refl _
 |_::_,0=>Nat.le_succ _
 |_::r,i+1=>Nat.succ_le_succ (JA r i)
theorem Zd(its:List Value):∀(k:Nat) (acc:List Value),
  List.foldl (λx1 x2=>x1++x2) acc.toArray (List.replicate k its.toArray)=(acc++(List.replicate k its).flatten).toArray
 | 0,acc=>by simp
 |k+1,acc=>by
  have e:acc.toArray++its.toArray=(acc++its).toArray:=by simp
  have e2:(acc++its)++(List.replicate k its).flatten=acc++(List.replicate (k+1) its).flatten:=by
   rw[List.replicate_succ,List.flatten_cons,wM]
  rw[<-e2,<-Zd its k (acc++its),<-e,List.replicate_succ,List.foldl_cons]
section
variable{X:Cx}{pins:List (Addr×Obj)}{σ:St}{H:Hp}{s:Shared}{l b:Addr}{xs ys zs:List V}
theorem Inv.lset{its its':List Value}{n:Nat}{f:Array Value->Array Value}{t':Nat}(I:Inv X pins σ H s)(hH:H l=some (.lst xs))
  (e:s.heap.get? l=some { cls:=.type "list",data:=.seq its.toArray n }) (hf:f its.toArray=its'.toArray) (hv:Vals ys its') (hz:ys.length<=sizeLine):
  Inv X pins σ (upd H l (.lst ys)) { s with heap:=s.heap.update l (Obj.mapSeq f),toks:=t' }:=by
 have q:=PySem.IsL.update e f;rw[hf]at q;refine I.write (x:=l) (e:=l) (by rw[hH];exact trivial) (.inl rfl) (λb' u hb hu=>(Heap.get?_update_other s.heap (Obj.mapSeq f) (Ne.symm hb)).trans hu) ⟨_,q⟩ ?_;exact⟨hz,its',_,hv,q⟩
theorem Inv.lnew{its:List Value}{t':Nat}(I:Inv X pins σ H s)(hv:Vals ys its)(hz:ys.length<=sizeLine):
  Inv X pins σ (upd H s.heap.objs.size (.lst ys)) { s with heap:=s.heap.push { cls:=.type "list",data:=.seq its.toArray },toks:=t' }:=
 I.laid (λ_ _ q=>Heap.get?_push_of_some _ q) (Nat.le_refl _) ⟨hz,its,0,hv,Heap.get?_push_size _ rfl⟩
theorem Inv.fresh(I:Inv X pins σ H s):H s.heap.objs.size=none:=I.hok.fresh (Nat.le_refl _)
theorem Inv.lstM(I:Inv X pins σ H s)(hH:H l=some (.lst xs)):xs.length<=sizeLine/\∃(its:List Value) (n:Nat),Vals xs its/\xs.length=its.length/\s.heap.get? l=some { cls:=.type "list",data:=.seq its.toArray n }:=by
 obtain⟨z,its,n,r,e⟩:=I.hok l _ hH;exact⟨z,its,n,r,r.length,e⟩
theorem V7{n:Nat}(h:n<=sizeLine):Builtin.List.listTooLong n=false:=by
 unfold Builtin.List.listTooLong;exact vD (by omega)
end
section
variable{X:Cx}
def v6:V->List V->Hp->VK->Prop:=λx vs H Q=>∃l xs y,x=.ref l/\vs=[y]/\H l=some (.lst xs)/\xs.length<sizeLine/\Q .non (upd H l (.lst (xs++[y])))
theorem mt_append:MtM X "list.append" v6:=by
 intro pins s σ H x vs v us Q I rx rv h;obtain⟨l,xs,y,rfl,rfl,hH,hz,q⟩:=h;cases rx;obtain⟨u,rfl,ru⟩:=rv.one;obtain⟨z,its,n,r,hl,e⟩:=I.lstM hH;refine call_meets F.slot_list_append ⟨_,e,rfl⟩ F.entry_list_append (F.args_list_append_2 _ _) (PySem.list_append l its.toArray n u (by rw[wB];omega)) ⟨e,?_⟩;refine⟨.non,_,I.lset (its':=its++[u]) hH e (by simp) (r.append (.cons ru .nil)) ?_,rfl,q⟩;rw[List.length_append,List.length_singleton];omega
def rPop:V->List V->Hp->VK->Prop:=λx vs H Q=>∃l xs y,x=.ref l/\vs=[]/\H l=some (.lst xs)/\xs[xs.length-1]?=some y/\Q y (upd H l (.lst xs.dropLast))
theorem mt_pop:MtM X "list.pop" rPop:=by
 intro pins s σ H x vs v us Q I rx rv h;obtain⟨l,xs,y,rfl,rfl,hH,hy,q⟩:=h;cases rx;have hus:=rv.zero;subst hus;obtain⟨z,its,n,r,hl,e⟩:=I.lstM hH;obtain⟨u,hu,ru⟩:=r.get hy;have hy':its.toArray[its.toArray.size-1]?=some u:=by
  show its.toArray[its.length-1]?=some u;rw[<-Array.getElem?_toList,<-hl];exact hu
 refine call_meets F.slot_list_pop ⟨_,e,rfl⟩ F.entry_list_pop (F.args_list_pop_1 _) (MeetsSeq.list_pop_last l its.toArray n u hy' (by rw[wB];omega)) ⟨e,?_⟩;refine⟨y,_,I.lset (its':=its.dropLast) hH e ?_ r.dropLast ?_,ru,q⟩
 ·show its.toArray.eraseIdxIfInBounds (its.toArray.size-1)=its.dropLast.toArray;rw[wB,List.eraseIdxIfInBounds_toArray,D4]
 ·rw[List.length_dropLast];omega
def rPopAt:V->List V->Hp->VK->Prop:=λx vs H Q=>∃l xs i k y,x=.ref l/\vs=[.int i]/\H l=some (.lst xs)/\-(2 ^ 63)<=i/\i<2 ^ 63/\seqIndex? i xs.length=some k/\xs[k]?=some y/\Q y (upd H l (.lst (xs.eraseIdx k)))
theorem mt_popAt:MtM X "list.pop" rPopAt:=by
 intro pins s σ H x vs v us Q I rx rv h;obtain⟨l,xs,i,k,y,rfl,rfl,hH,h1,h2,hk,hy,q⟩:=h;cases rx;obtain⟨u,rfl,ru⟩:=rv.one;obtain⟨t,rfl⟩:=ru;obtain⟨z,its,n,r,hl,e⟩:=I.lstM hH;obtain⟨w,hw,rw'⟩:=r.get hy;refine call_meets F.slot_list_pop ⟨_,e,rfl⟩ F.entry_list_pop (F.args_list_pop_2 _ _)
  (MeetsSeq.list_pop_at l its.toArray n i t k w (fitsIndex_both h1 h2) (by rw[wB,<-hl];exact hk) (by rw[<-Array.getElem?_toList];exact hw) (by rw[wB];omega)) ⟨e,?_⟩
 refine⟨y,_,I.lset (its':=its.eraseIdx k) hH e ?_ (r.eraseIdx k) ?_,rw',q⟩
 ·show its.toArray.eraseIdxIfInBounds k=(its.eraseIdx k).toArray;rw[List.eraseIdxIfInBounds_toArray]
 ·have:=JA xs k;omega
def rReverse:V->List V->Hp->VK->Prop:=λx vs H Q=>∃l xs,x=.ref l/\vs=[]/\H l=some (.lst xs)/\Q .non (upd H l (.lst xs.reverse))
theorem mt_reverse:MtM X "list.reverse" rReverse:=by
 intro pins s σ H x vs v us Q I rx rv h;obtain⟨l,xs,rfl,rfl,hH,q⟩:=h;cases rx;have hus:=rv.zero;subst hus;obtain⟨z,its,n,r,hl,e⟩:=I.lstM hH;refine call_meets F.slot_list_reverse ⟨_,e,rfl⟩ F.entry_list_reverse (F.args_list_reverse_1 _) (AutoSeq1.list_reverse_list_0 l its.toArray n (by rw[wB];omega)) ⟨e,?_⟩;refine⟨.non,_,I.lset (its':=its.reverse) hH e (by simp) r.reverse ?_,rfl,q⟩;rw[List.length_reverse];omega
def rClear:V->List V->Hp->VK->Prop:=λx vs H Q=>∃l xs,x=.ref l/\vs=[]/\H l=some (.lst xs)/\Q .non (upd H l (.lst []))
theorem mt_clear:MtM X "list.clear" rClear:=by
 intro pins s σ H x vs v us Q I rx rv h;obtain⟨l,xs,rfl,rfl,hH,q⟩:=h;cases rx;have hus:=rv.zero;subst hus;obtain⟨z,its,n,r,hl,e⟩:=I.lstM hH;refine call_meets F.slot_list_clear ⟨_,e,rfl⟩ F.entry_list_clear (F.args_list_clear_1 _) (AutoSeq1.list_clear_list_0 l its.toArray n (by rw[wB];omega)) ⟨e,?_⟩;exact⟨.non,_,I.lset (its':=[]) (ys:=[]) hH e rfl .nil (Nat.zero_le _),rfl,q⟩
noncomputable def rCat:R2:=λx y H Q=>∃l b xs zs,x=.ref l/\y=.ref b/\H l=some (.lst xs)/\H b=some (.lst zs)/\xs.length+zs.length<=sizeLine/\∀p,H p=none->Q (.ref p) (upd H p (.lst (xs++zs)))
theorem op_cat:OpR X (binaryOp .Add) rCat:=by
 intro pins s σ H x y v u Q I rx ry h;obtain⟨l,b,xs,zs,rfl,rfl,hH,hB,hz,q⟩:=h;cases rx;cases ry;obtain⟨z,its,n,r,hl,e⟩:=I.lstM hH;obtain⟨z2,its2,n2,r2,hl2,e2⟩:=I.lstM hB;refine PySem.P.add_list e e2 ?_ (by rw[wB,wB];omega);have ea:its.toArray++its2.toArray=(its++its2).toArray:=by simp
 rw[ea];exact⟨.ref _,_,I.lnew (t':=s.toks) (r.append r2) (by rw[List.length_append];omega),rfl,q _ I.fresh⟩
noncomputable def rRep:R2:=λx y H Q=>∃l k xs,x=.ref l/\y=.int k/\H l=some (.lst xs)/\-(2 ^ 63)<=k/\k<2 ^ 63/\xs.length*k.toNat<=sizeLine/\
 ∀p,H p=none->Q (.ref p) (upd H p (.lst (List.replicate k.toNat xs).flatten))
theorem v0{α:Type}(xs:List α)(k:Nat):(List.replicate k xs).flatten.length=k*xs.length:=by
 induction k with
 |zero=>simp
 |succ k ih=>rw[List.replicate_succ,List.flatten_cons,List.length_append,ih,Nat.succ_mul,Nat.add_comm]
theorem op_rep:OpR X (binaryOp .Mult) rRep:=by
 intro pins s σ H x y v u Q I rx ry h;obtain⟨l,k,xs,rfl,rfl,hH,h1,h2,hz,q⟩:=h;cases rx;obtain⟨t,rfl⟩:=ry;obtain⟨z,its,n,r,hl,e⟩:=I.lstM hH;have hlen:its.toArray.size*k.toNat<=sizeLine:=by rw[wB,<-hl];exact hz
 have hcap:¬ its.toArray.size*k.toNat>(2 ^ 63-1) / 8:=by
  have:(sizeLine:Nat)<=(2 ^ 63-1) / 8:=by decide
  omega
 have hfit:¬ (!Builtin.List.listFitsIndex k)=true:=by
  rw[fitsIndex_both h1 h2];exact wT
 have hlong:¬ Builtin.List.listTooLong (its.toArray.size*k.toNat)=true:=by
  rw[V7 hlen];exact wT
 have hnew:List.foldl (λx1 x2=>x1++x2) #[] (List.replicate (if its.toArray.isEmpty=true then 0 else k.toNat) its.toArray)=(List.replicate k.toNat its).flatten.toArray:=by
  have f0:∀m:Nat,List.foldl (λx1 x2=>x1++x2) #[] (List.replicate m its.toArray)=(List.replicate m its).flatten.toArray:=λm=>by
   have:=Zd its m [];rw[List.nil_append]at this;exact this
  rw[f0];cases its with
  |nil=>simp
  |cons a r'=>rw[if_neg (by simp)]
 refine wpAny_binaryOp_repeat_ref (T:="list") (U:="int") (by decide) ⟨_,e,rfl⟩ (λs'=>typeIs_int s' k t) noFill_list_mul F.fills_int_mul F.slot_int_rmul repeat_list F.slot_int_index.lookup
  (call_meets F.slot_int_rmul (typeIs_int s k t) F.entry_int_rmul (F.args_int_rmul_2 _ _) (int___rmul___int_list k t l its.toArray n)
   ⟨e,rfl,⟨_,e,rfl⟩,call_meets F.slot_list_mul ⟨_,e,rfl⟩ F.entry_list_mul (F.args_list_mul_2 _ _) (AutoListH.list___mul___list_int_3 l its.toArray n k t hfit hcap hlong) ⟨e,?_⟩⟩)
 rw[hnew];exact⟨.ref _,_,I.lnew (t':=s.toks) (r.rep k.toNat) (by rw[v0,Nat.mul_comm];exact hz),rfl,q _ I.fresh⟩
end
end L2
namespace Att
open PySem PySem.W PySem.Calls PyProof.Rows
theorem QD{P:Params}{h:Heap}:∀(ns:List Int) (vs:List Value),WellAll P h vs (ns.map WData.int)->IntsAre vs ns:=by
 intro ns
 induction ns with
 |nil=>
  intro vs w;rw[List.map_nil]at w;cases w;exact .nil
 |cons n ns ih=>
  intro vs w;rw[List.map_cons]at w;cases w with
  |cons a b=>
   cases a;exact .cons _ _ (ih _ b)
theorem Q4{l:OpenLaw}{n:Nat}(hn:l.most=some n){P:Params}{h:Heap}{args:List WData}{vals:List Value}
  (hpre:l.row.toRowW.claim.pre args=true) (hwl:WellAll P h vals args):
  ∃a vs ns,vals=[Value.ref a]/\args=[WData.list (ns.map WData.int)]/\h.get? a=some { cls:=.type "list",data:=.seq vs.toArray }/\IntsAre vs ns/\ns.length<=n:=by
 have hsh:WShape.hasAll [] args [.list .int]=true:=(pre_splitW hpre).1;have hc:l.pre.holds [] { args:=args }=true:=(pre_splitW hpre).2;obtain⟨d,r,rfl,h1,h2⟩:=hasAllW_cons hsh;obtain rfl:=hasAllW_nil h2;obtain⟨xs,rfl,h3⟩:=hasW_list h1;obtain⟨ns,rfl⟩:=items_int h3;have hlen:ns.length<=n:=by
  unfold OpenLaw.pre at hc;have h4:(WTm.not (.lt (.lit (.int (n:Int))) (.len (.arg 0)))).holds [] { args:=[.list (ns.map .int)] }=true:=by
   have h4:=(holds_andW hc).1;rw[hn]at h4;exact h4
  have h5:=condW_of h4 (w_not (w_lt w_lit (w_len_list (w_arg rfl))));rw[wL]at h5;refine Nat.le_of_not_lt λq=>?_;have q':(n:Int)<((ns.length:Nat):Int):=by omega
  first
   | (rw[vE q']at h5;exact absurd h5 (by decide))
   | (simp at h5;omega)
 cases hwl with
 |cons w1 w2=>
  cases w2;cases w1 with
  |list ho hall=>exact⟨_,_,ns,rfl,rfl,ho,QD ns _ hall,hlen⟩
theorem G9(l:OpenLaw)(args:List WData):l.row.toRowW.claim.post args (.bool true) args=true:=
 postW_of (r:=l.row.toRowW) (X:=(true==true))
  (show WShape.has [] (.bool true) .bool=true by first|rfl|decide|simp[WShape.has,WShape.arms,WShape.armsAll])
  (show (WTm.eq .res (.lit (.bool true))).value [] { args:=args,res:=some (.bool true),after:=args }=some (.bool (true==true)) from w_eq_bool (w_res rfl) w_lit) rfl
theorem attach_call{l:OpenLaw}{n:Nat}{q:Program}{loose:List Str}{XP:(Str->Option Value)->Heap->Prop}{YP:World->Heap->Prop}{d:DefRec}
  (hn:l.most=some n) (hdf:d.params.defaults=[])
  (call:∀(w:World) (s₀ s₁:Shared) (mg mb:Str->Option Value) (fa:Addr) (o:Obj) (pm cd doc:Value) (a:Addr) (vs:List Value) (ns:List Int),
   Ground q loose [] XP w s₀ mg mb s₁.heap->YP w s₁.heap ->
   s₁.heap.get? fa=some o->o.data=.func (docDef d.name d.params d.body d.scope pm cd doc)->s₁.heap.CodeRec cd d.name->mg d.name=some (.ref fa) ->
   s₁.heap.get? a=some { cls:=.type "list",data:=.seq vs.toArray }->IntsAre vs ns->ns.length<=n->s₁.gens=#[] ->
   codeAny (model l.prog w) callerA (.call (.ref fa) ⟨[.ref a],[]⟩) (λr s'=>r=.ok (.ret (.bool true))/\OldK s₁.heap s'.heap/\s'.os=s₁.os/\AllBare s'.gens) s₁):
  WalkO q loose XP YP l.row.toRowW d [] (λf vs=>PySem.call f vs):=by
 intro w s₀ s₁ mg mb G Y fa o pm cd doc dV kV ho hd hcd hD hmg hg args vals as hpre hlay hrd hwl hlo;obtain rfl:dV=.none:=Dflts.none hD hdf;obtain rfl:kV=.none:=Dflts.noKw hD;obtain⟨a,vs,ns,rfl,rfl,hobj,hints,hlen⟩:=Q4 hn hpre hwl;refine enter_call (codeAny_mono (call w s₀ s₁ mg mb fa o pm cd doc a vs ns G Y ho (fd_plain hd) hcd hmg hobj hints hlen hg) λr s' hq=>?_);obtain⟨rfl,h2,h3,h4⟩:=hq;exact⟨.inl ⟨.bool true,.bool true,[],rfl,λ_=>rfl,.bool true,G9 l _,λ_=>⟨List.Pairwise.nil,λ_ hm=>(nomatch hm)⟩⟩,h2,h3,h4⟩
end Att
namespace L2
open PySem PySem.Spec PyProof.Rows
theorem jF:∀{vs:List Value}{ns:List Int},IntsAre vs ns->Vals (ns.map V.int) vs
 |_,_,.nil=>.nil
 |_,_,.cons n t h=>.cons ⟨t,rfl⟩ (jF h)
def Only(H:Hp):Prop:=∀b,H b=none\/∃o xs,H b=some (.frz o (.lst xs))
theorem V4{P:Program}{w:World}{K:PySem.W.Frag}{mg mb:Str->Option Value}{CX:CXT}{k:Nat}{fa a:Addr}{fd:FuncData}{x:Str}{sp:Sp}{s₁:Shared}{vs:List Value}{ns:List Int}
  (KX:K.In s₁.heap) (hns:s₁.heap.Ns mainGlobals mg) (hb:s₁.heap.Ns builtinsNs mb) (hbb:∀x:Str,x≠"__name__" -> mb x=bootBuiltins x) (hlim:s₁.heap.NoLimit) (hg:s₁.gens=#[])
  (ha:s₁.heap.get? a=some { cls:=.type "list",data:=.seq vs.toArray }) (hi:IntsAre vs ns) (hl:ns.length<=sizeLine) (hr:Room k callerA)
  (F:∀base:Heap,K.In base->base.Ns mainGlobals mg->FnOk P w K mg base CX k fa fd [x] sp) (hbind:∀(s:Shared) (u:Value),BindsTo s fd ⟨[u],[]⟩ [(x,u)])
  (hsp:∀H:Hp,Only H->SqL K H a (ns.map V.int)->sp [.ref a] H (λv _=>v=.bl true) λ_ _ _=>False)
  (hCX:∀H e s',CX [] H s₁ (λ_ _ _=>False) e s'->False):
  codeAny (model P w) callerA (.call (.ref fa) ⟨[.ref a],[]⟩) (λr s'=>r=.ok (.ret (.bool true))/\OldK s₁.heap s'.heap/\s'.os=s₁.os/\AllBare s'.gens) s₁:=by
 have rv:=jF hi;have lenV:=hi.length;have core:∀H:Hp,Only H->SqL K H a (ns.map V.int)->HOk P w H s₁.heap->(∀b,H b≠none->b=a)->(H a≠none->K.lookup a=none) ->
   codeAny (model P w) callerA (.call (.ref fa) ⟨[.ref a],[]⟩) (λr s'=>r=.ok (.ret (.bool true))/\OldK s₁.heap s'.heap/\s'.os=s₁.os/\AllBare s'.gens) s₁:=by
  intro H hO hS hok hA hK;have base_of:∀{b:Addr}{o:Obj},s₁.heap.get? b=some o->H b=none->(S8 s₁.heap H).get? b=some o:=λe n=>Y6 e n;have noA:∀{b:Addr}{o:Obj}{es:Array DictEntry}{ep:Nat},s₁.heap.get? b=some o->o.data=.dict es ep->H b=none:=λ{b o es ep} e d=>by
   cases q:H b with
   |none=>rfl
   |some u=>
    have e':b=a:=hA b (by rw[q];simp);subst e';rw[ha]at e;cases e;have d':Data.seq vs.toArray _=Data.dict es ep:=d;cases d'
  have nsK:∀{b:Addr}{m:Str->Option Value},s₁.heap.Ns b m->(S8 s₁.heap H).Ns b m:=λ{b m} ⟨o,es,ep,e,d,r⟩=>⟨o,es,ep,base_of e (noA e d),d,r⟩
  have hKb:K.In (S8 s₁.heap H):=λb o e=>base_of (KX b o e) (by
   cases q:H b with
   |none=>rfl
   |some u=>
    have e':b=a:=hA b (by rw[q];simp);subst e';rw[hK (by rw[q];simp)]at e;cases e)
  have hM:Mod K mg (S8 s₁.heap H):=⟨hKb,nsK hns,⟨mb,nsK hb,hbb⟩,let ⟨mc,h1,h2⟩:=hlim;⟨mc,nsK h1,h2⟩⟩
  have e0:Env0 P w K mg (S8 s₁.heap H) callerA [] s₁ H:=⟨rfl,hM,λb o e=>qAc e,Nat.le_of_eq (O2 _ _),trivial,λb hb=>absurd (show b∈([]:List Addr) from hb) (by simp),hok,.of_eq hg⟩
  refine codeAny_mono ((F _ hKb (nsK hns)).run callerA [] s₁ H ⟨[.ref a],[]⟩ [.ref a] [.ref a] _ _ hr e0 (hbind s₁ (.ref a)) (.cons rfl .nil) (hsp H hO hS)) λr s' h=>?_;cases r with
  |error e=>exact(hCX H e s' h).elim
  |ok fl=>
   cases fl with
   |next=>exact False.elim h
   |brk=>exact False.elim h
   |cont=>exact False.elim h
   |ret u=>
    obtain⟨v,H',os,bare,un,hok',r',q⟩:=h;have q':v=.bl true:=q;subst q';obtain rfl:u=Value.bool true:=r';refine⟨rfl,OldK.of_keep λb o e=>?_,os,bare⟩;cases q:H b with
    |none=>exact un.keep b o e q (by intro z;exact absurd (show b∈([]:List Addr) from z) (by simp)) (by simp)
    |some u=>
     rcases hO b with z|⟨ob,xs,z⟩
     ·rw[q]at z;cases z
     ·have z2:=un.frzs b ob _ z;obtain⟨e1,_⟩:=hok b _ z;obtain⟨e2,_⟩:=hok' b _ z2;rw[e]at e1;cases e1;exact e2
 cases hk:K.lookup a with
 |some o=>
  have e:=KX a o hk;rw[ha]at e;cases e;refine core (λ_=>none) (λ_=>.inl rfl) (.inr ⟨_,vs.toArray,_,hk,rfl,rfl,rfl,by rw[wB,lenV];exact hl,by simpa using rv⟩) (λb u z=>by have z':(none:Option HO)=some u:=z;cases z') (λb z=>absurd rfl z) λz=>absurd rfl z
 |none=>
  refine core (λb=>if b=a then some (.frz { cls:=.type "list",data:=.seq vs.toArray } (.lst (ns.map V.int))) else none) (λb=>?_) (.inl (.inr ⟨{ cls:=.type "list",data:=.seq vs.toArray },if_pos rfl⟩)) (λb u z=>?_) (λb z=>?_) λ_=>hk
  ·by_cases hb:b=a
   ·exact .inr ⟨_,_,if_pos hb⟩
   ·exact .inl (if_neg hb)
  ·by_cases hb:b=a
   ·have z':=(if_pos hb).symm.trans z;cases z';subst hb;exact⟨ha,by rw[wL];exact hl,vs,_,rv,ha⟩
   ·have z':=(if_neg hb).symm.trans z;cases z'
  ·by_cases hb:b=a
   ·exact hb
   ·exact absurd (if_neg hb) z
theorem walk_of{l:PySem.W.OpenLaw}{n k:Nat}{q:Program}{loose:List Str}{XP:(Str->Option Value)->Heap->Prop}{YP:World->Heap->Prop}{d:DefRec}{K:Params->PySem.W.Frag}{CX:World->CXT}{sp:World->Sp}{x:Str}
  (hn:l.most=some n) (hn2:n<=sizeLine) (hdf:d.params.defaults=[]) (hr:Room k callerA)
  (hY:∀(w:World) (h:Heap),YP w h->(K w.params).In h)
  (F:∀(w:World) (mg:Str->Option Value) (fa:Addr) (h:Heap),(K w.params).In h->h.Ns mainGlobals mg->mg d.name=some (.ref fa) ->
   ∃fd:FuncData,(∀(s:Shared) (u:Value),BindsTo s fd ⟨[u],[]⟩ [(x,u)])/\
    ∀base:Heap,(K w.params).In base->base.Ns mainGlobals mg->FnOk l.prog w (K w.params) mg base (CX w) k fa fd [x] (sp w))
  (hsp:∀(w:World) (H:Hp) (a:Addr) (ns:List Int),ns.length<=n->Only H->SqL (K w.params) H a (ns.map V.int)->sp w [.ref a] H (λv _=>v=.bl true) λ_ _ _=>False)
  (hCX:∀(w:World) (H:Hp) (s:Shared) (e:Value) (s':Shared),CX w [] H s (λ_ _ _=>False) e s'->False):
  PySem.W.WalkO q loose XP YP l.row.toRowW d [] (λf vs=>PySem.call f vs):=by
 refine Att.attach_call hn hdf λw s₀ s₁ mg mb fa o pm cd doc a vs ns G Y ho hd hcd hmg hobj hints hlen hg=>?_;have KX:=hY w _ Y;obtain⟨fd,hb,hF⟩:=F w mg fa _ KX G.T.g hmg;exact V4 KX G.T.g G.T.b G.T.builtins G.T.nolimit hg hobj hints (Nat.le_trans hlen hn2) hr hF hb (λH hO hS=>hsp w H a ns hlen hO hS) λH e s'=>hCX w H s₁ e s'
noncomputable def zR(s:Stmt):Arguments:=match s with
 | .FunctionDef _ a _ _ _ _ _ _ _ _=>a
 |_=>{ posonlyargs:=[],args:=[],vararg:=none,kwonlyargs:=[],kw_defaults:=[],kwarg:=none,defaults:=[] }
noncomputable def defBody(s:Stmt):List Stmt:=match s with
 | .FunctionDef _ _ b _ _ _ _ _ _ _=>b
 |_=>[]
noncomputable def defScope(s:Stmt):Scope:=match s with
 | .FunctionDef _ _ _ _ _ _ sc _ _ _=>sc
 |_=>{ kind:=.function,names:=[],isGenerator:=false,isCoroutine:=false }
noncomputable abbrev CX0:CXT:=λ_ _ _ _ _ _=>False
noncomputable abbrev E0:XK:=λ_ _ _=>False
theorem pass0{X:Cx}:C1 CX0 X E0:=λ_ _ _ _ _ _ _ h=>h.elim
structure Fun(K:PySem.W.Frag)(x qual:Str)(st:Stmt)(f:Addr)(fd:FuncData):Prop where
 ex:∃(oc:Value) (od:Option Addr) (kV doc pm:Value) (an:Option Addr) (cdv ct:Value) (osl:Array (Option Value)),
  fd=PySem.W.fnOf x qual (zR st) (defBody st) (defScope st) .none kV doc pm an cdv ct/\K.lookup f=some ⟨oc,od,.func fd,osl⟩/\PySem.W.codeIn K cdv qual=true
 kp:PySem.W.keepIn K (.ref f)=true
section
variable{P:Program}{w:World}{K:PySem.W.Frag}{mg:Str->Option Value}{base:Heap}
theorem Fun.ok{x qual:Str}{st:Stmt}{f:Addr}{fd:FuncData}{N ps:List Str}{k:Nat}{sp:Sp}(F:Fun K x qual st f fd)(S:qu N ps (defScope st))(len:∀vs H Q E,sp vs H Q E->vs.length=ps.length)
  (hbody:∀(cdv:Value) (A:Around) (outer:List Env) (s:Shared) (H:Hp) (vs:List V) (Q:VK) (E:XK),Room k (A.deeper (envOfC qual (defScope st) s.heap.objs.size f cdv))->sp vs H Q E ->
   ∃t,PSs (cxOf CX0 P w K mg base N qual (defScope st) f cdv A outer s H E).nox (defBody st) t/\t { nx:=λ_ H'=>Q .non H',rt:=Q } (start N vs) H):FnOk P w K mg base CX0 (k+1) f fd ps sp:=by
 obtain⟨oc,od,kV,doc,pm,an,cdv,ct,osl,rfl,lk,hcd⟩:=F.ex;refine fn_of lk hcd S len λA outer s H vs Q E hr hsp=>?_;obtain⟨t,h,q⟩:=hbody cdv A outer s H vs Q E hr hsp;exact⟨t,h.nox,q⟩
theorem Fun.binds{x qual:Str}{st:Stmt}{f:Addr}{fd:FuncData}{ps:List Str}(F:Fun K x qual st f fd)
  (h:∀(kV doc pm:Value) (an:Option Addr) (cdv ct:Value) (us:List Value),us.length=ps.length->bindArgs (PySem.W.fnOf x qual (zR st) (defBody st) (defScope st) .none kV doc pm an cdv ct) ⟨us,[]⟩=pure (ps.zip us)):Binds K fd ps []:=by
 obtain⟨oc,od,kV,doc,pm,an,cdv,ct,osl,rfl,lk,hcd⟩:=F.ex;exact .all (h kV doc pm an cdv ct)
theorem j3{x qual:Str}{st:Stmt}{f:Addr}{oc:Value}{od an:Option Addr}{osl:Array (Option Value)}{kV doc pm cdv ct:Value}(l:K.lookup f=some ⟨oc,od,.func (PySem.W.fnOf x qual (zR st) (defBody st) (defScope st) .none kV doc pm an cdv ct),osl⟩)
  (c:PySem.W.codeIn K cdv qual=true) (k:PySem.W.keepIn K (.ref f)=true):Fun K x qual st f (PySem.W.fnOf x qual (zR st) (defBody st) (defScope st) .none kV doc pm an cdv ct):=⟨⟨oc,od,kV,doc,pm,an,cdv,ct,osl,rfl,l,c⟩,k⟩
end
def QV(H H':Hp):Prop:=∀b o,H b=some o->H' b=some o
section
variable{κ:Type}[DecidableEq κ]
noncomputable def valV(kvs:List (κ×V))(k:κ):Option V:=(kvs.find? λkv=>decide (kv.1=k)).map (·.2)
noncomputable def putK(kvs:List (κ×V))(k:κ)(v:V):List (κ×V):=
 if (kvs.any λkv=>decide (kv.1=k))=true then kvs.map (λkv=>if kv.1=k then (kv.1,v) else kv) else kvs++[(k,v)]
noncomputable def qAx(kvs:List (κ×V))(k:κ):List (κ×V):=kvs.filter λkv=>decide (kv.1≠k)
theorem ZB{p:κ×V}{r:List (κ×V)}{k:κ}(e:p.1=k):valV (p::r) k=some p.2:=by simp[valV,List.find?_cons,e]
theorem ZF{p:κ×V}{r:List (κ×V)}{k:κ}(e:¬ p.1=k):valV (p::r) k=valV r k:=by simp[valV,List.find?_cons,e]
theorem valV_any(k:κ):∀kvs:List (κ×V),(kvs.any λkv=>decide (kv.1=k))=(valV kvs k).isSome
 | []=>rfl
 |p::r=>by
  rw[List.any_cons];by_cases e:p.1=k
  ·simp only[ZB e,vE e,Bool.true_or,Option.isSome_some]
  ·rw[ZF e,vD e,Bool.false_or];exact valV_any k r
theorem QF(kvs:List (κ×V))(k:κ)(v:V):(putK kvs k v).length<=kvs.length+1:=by
 unfold putK;split
 ·rw[wL];omega
 ·rw[List.length_append,List.length_cons,List.length_nil];omega
theorem RelO.isSome_eq{o:Option V}{u:Option Value}(r:RelO o u):o.isSome=u.isSome:=by
 cases o with
 |none=>cases u with
  |none=>rfl
  |some _=>exact(show False from r).elim
 |some _=>cases u with
  |none=>exact(show False from r).elim
  |some _=>rfl
theorem RelO.getD{o:Option V}{u:Option Value}{d:V}{d':Value}(r:RelO o u)(rd:RelV d d'):RelV (o.getD d) (u.getD d'):=by
 cases o with
 |none=>cases u with
  |none=>exact rd
  |some _=>exact(show False from r).elim
 |some _=>cases u with
  |none=>exact(show False from r).elim
  |some _=>exact r
theorem KV.val{kvs:List (κ×V)}{vs:List (κ×Value)}(r:KV kvs vs)(k:κ):RelO (valV kvs k) (valueAt vs k):=by
 unfold KV at r
 induction r with
 |nil=>exact True.intro
 | @cons p q ps qs h t ih=>
  obtain⟨h1,h2⟩:=h;by_cases e:p.1=k
  ·have e':q.1=k:=h1.symm.trans e;have b:valueAt (q::qs) k=some q.2:=by simp[valueAt,List.find?_cons,e']
   rw[ZB e,b];exact h2
  ·have e':¬ q.1=k:=λz=>e (h1.trans z);have b:valueAt (q::qs) k=valueAt qs k:=by simp[valueAt,List.find?_cons,e']
   rw[ZF e,b];exact ih
theorem KV.any{kvs:List (κ×V)}{vs:List (κ×Value)}(r:KV kvs vs)(k:κ):(kvs.any λkv=>decide (kv.1=k))=vs.any λkv=>decide (kv.1=k):=by
 unfold KV at r
 induction r with
 |nil=>rfl
 |cons h t ih=>rw[List.any_cons,List.any_cons,ih,h.1]
theorem KV.repl{kvs:List (κ×V)}{vs:List (κ×Value)}(r:KV kvs vs)(k:κ){y:V}{u:Value}(ry:RelV y u):
  KV (kvs.map λkv=>if kv.1=k then (kv.1,y) else kv) (vs.map λkv=>if kv.1=k then (kv.1,u) else kv):=by
 unfold KV at r ⊢
 induction r with
 |nil=>exact .nil
 | @cons p q ps qs h t ih=>
  rw[List.map_cons,List.map_cons];refine .cons ?_ ih;obtain⟨h1,h2⟩:=h;by_cases e:p.1=k
  ·rw[if_pos e,if_pos (h1.symm.trans e)];exact⟨h1,ry⟩
  ·rw[if_neg e,if_neg (λz=>e (h1.trans z))];exact⟨h1,h2⟩
theorem KV.put{kvs:List (κ×V)}{vs:List (κ×Value)}(r:KV kvs vs)(k:κ){y:V}{u:Value}(ry:RelV y u):KV (putK kvs k y) (stored vs k u):=by
 unfold putK stored;rw[r.any k];by_cases e:(vs.any λkv=>decide (kv.1=k))=true
 ·rw[if_pos e,if_pos e];exact r.repl k ry
 ·rw[if_neg e,if_neg e];exact Paired.snoc r ⟨rfl,ry⟩
theorem KV.drop{kvs:List (κ×V)}{vs:List (κ×Value)}(r:KV kvs vs)(k:κ):KV (qAx kvs k) (without vs k):=by
 unfold KV at r ⊢;unfold qAx without
 induction r with
 |nil=>exact .nil
 | @cons p q ps qs h t ih=>
  obtain⟨h1,h2⟩:=h;rw[List.filter_cons,List.filter_cons];by_cases e:p.1=k
  ·have a:¬ decide (p.1≠k)=true:=by simp[e]
   have b:¬ decide (q.1≠k)=true:=by simp[h1.symm.trans e]
   rw[if_neg a,if_neg b];exact ih
  ·have e':¬ q.1=k:=λz=>e (h1.trans z);have a:decide (p.1≠k)=true:=by simp[e]
   have b:decide (q.1≠k)=true:=by simp[e']
   rw[if_pos a,if_pos b];exact .cons ⟨h1,h2⟩ ih
theorem KV.length{kvs:List (κ×V)}{vs:List (κ×Value)}(r:KV kvs vs):kvs.length=vs.length:=Paired.length r
end
theorem T8{P:Program}{w:World}{k:Key}{u:Value}(r:RelV (kV k) u):(qo P w).is k u=true:=by
 cases k with
 |inl i=>obtain⟨t,e⟩:=(show ∃t,u=Value.int i t from r);subst e;exact JR P w i t
 |inr x=>obtain⟨t,e⟩:=(show ∃t,u=Value.str x t from r);subst e;exact JM P w x t
theorem JG{P:Program}{w:World}:∀{ks:List Key}{us:List Value},Vals (ks.map kV) us->ItemsAre (qo P w) ks us
 | [],_,r=>by rw[List.map_nil]at r;cases r;exact .nil
 |k::ks,_,r=>by
  rw[List.map_cons]at r;cases r with
  |cons h t=>exact .cons (T8 h) (JG t)
abbrev KT(H:Hp):List (List Key×V)->List (List Key×Addr×Value)->Prop:=Paired λp q=>p.1=q.1/\H q.2.1=some (.tup (p.1.map kV))/\RelV p.2 q.2.2
theorem KT.val{H:Hp}{kvs:List (List Key×V)}{xs:List (List Key×Addr×Value)}(r:KT H kvs xs)(k:List Key):RelO (valV kvs k) ((atKey xs k).map (·.2)):=by
 induction r with
 |nil=>exact True.intro
 | @cons p q ps qs h t ih=>
  obtain⟨h1,_,h2⟩:=h;by_cases e:p.1=k
  ·have e':q.1=k:=h1.symm.trans e;have b:atKey (q::qs) k=some q.2:=by simp[atKey,List.find?_cons,e']
   rw[ZB e,b];exact h2
  ·have e':¬ q.1=k:=λz=>e (h1.trans z);have b:atKey (q::qs) k=atKey qs k:=by simp[atKey,List.find?_cons,e']
   rw[ZF e,b];exact ih
theorem KT.repl{H:Hp}{kvs:List (List Key×V)}{xs:List (List Key×Addr×Value)}(r:KT H kvs xs)(k:List Key){y:V}{u:Value}(ry:RelV y u):
  KT H (kvs.map λkv=>if kv.1=k then (kv.1,y) else kv) (xs.map (putAt k u)):=by
 induction r with
 |nil=>exact .nil
 | @cons p q ps qs h t ih=>
  rw[List.map_cons,List.map_cons];refine .cons ?_ ih;obtain⟨h1,h2,h3⟩:=h;unfold putAt;by_cases e:p.1=k
  ·rw[if_pos e,if_pos (h1.symm.trans e)];exact⟨h1,h2,ry⟩
  ·rw[if_neg e,if_neg (λz=>e (h1.trans z))];exact⟨h1,h2,h3⟩
theorem KT.put{H:Hp}{kvs:List (List Key×V)}{xs:List (List Key×Addr×Value)}(r:KT H kvs xs)(k:List Key){b:Addr}{y:V}{u:Value}(hb:H b=some (.tup (k.map kV)))(ry:RelV y u):
  KT H (putK kvs k y) (storedH xs k b u):=by
 have e:(kvs.any λkv=>decide (kv.1=k))=(atKey xs k).isSome:=by
  rw[valV_any,(r.val k).isSome_eq,Option.isSome_map]
 unfold putK storedH;rw[e];by_cases q:(atKey xs k).isSome=true
 ·rw[if_pos q,if_pos q];exact r.repl k ry
 ·rw[if_neg q,if_neg q];exact Paired.snoc r ⟨rfl,hb,ry⟩
theorem KT.keeps{H H':Hp}{kvs:List (List Key×V)}{xs:List (List Key×Addr×Value)}(r:KT H kvs xs)(ht:∀b ys,H b=some (.tup ys)->H' b=some (.tup ys)):KT H' kvs xs:=
 Paired.mapP r λ_ _ z=>⟨z.1,ht _ _ z.2.1,z.2.2⟩
section
variable{P:Program}{w:World}{H:Hp}{h:Heap}{a:Addr}
theorem qBF{u:HO}(ok:HOk P w H h)(e:Rd H a u):ObjOk P w H h a u:=e.ok ok
theorem z9{kvs:List (Key×V)}(ok:HOk P w H h)(e:Rd H a (.dK kvs)):kvs.length<=sizeLine/\(a==sysModules)=false/\∃vs,KV kvs vs/\h.DictOf (qo P w) a vs:=
 show ObjOk P w H h a (.dK kvs) from qBF ok e
theorem qDS{kvs:List (Key×V)}(ok:HOk P w H h)(e:H a=some (.dK kvs)):kvs.length<=sizeLine/\(a==sysModules)=false/\∃vs,KV kvs vs/\h.DictOf (qo P w) a vs:=z9 ok (.inl e)
theorem B1{ks:List Key}(ok:HOk P w H h)(e:H a=some (.tup (ks.map kV))):(tupleKind (qo P w)).is h ks a:=by
 obtain⟨_,its,r,o,h1,h2,n,h3⟩:=(show ObjOk P w H h a (.tup (ks.map kV)) from ok a _ e)
 exact⟨o,its.toArray,n,h1,h2,h3,by simpa using JG r⟩
theorem l4{kvs:List (List Key×V)}(ok:HOk P w H h)(e:Rd H a (.dT kvs)):kvs.length<=sizeLine/\(a==sysModules)=false/\
  ∃xs,KT H kvs xs/\h.DictOfH (tupleKind (qo P w)) a xs:=by
 obtain⟨z,y,xs,r,o,es,ep,h1,h2,h3,h4,h5⟩:=(show ObjOk P w H h a (.dT kvs) from qBF ok e)
 refine⟨z,y,xs,r,o,es,ep,h1,h2,h3,h4,λx hx=>?_,h5⟩;have all:∀{l:List (List Key×V)}{m:List (List Key×Addr×Value)},KT H l m->∀x∈m,(tupleKind (qo P w)).is h x.1 x.2.1:=by
  intro l m q
  induction q with
  |nil=>intro x hx;exact nomatch hx
  | @cons p q ps qs hq t ih=>
   intro x hx;rcases List.mem_cons.mp hx with e|hx
   ·subst e;exact B1 ok (by rw[<-hq.1];exact hq.2.1)
   ·exact ih x hx
 exact all r x hx
theorem qDH{kvs:List (List Key×V)}(ok:HOk P w H h)(e:H a=some (.dT kvs)):kvs.length<=sizeLine/\(a==sysModules)=false/\
  ∃xs,KT H kvs xs/\h.DictOfH (tupleKind (qo P w)) a xs:=l4 ok (.inl e)
end
def DGet(H:Hp)(a:Addr)(y:V)(r:Option V):Prop:=
 (∃kvs k,Rd H a (.dK kvs)/\y=kV k/\r=valV kvs k)\/∃kvs k b,Rd H a (.dT kvs)/\y=.ref b/\H b=some (.tup (k.map kV))/\r=valV kvs k
def DPut(H:Hp)(a:Addr)(y v:V)(H':Hp):Prop:=
 (∃kvs k,H a=some (.dK kvs)/\y=kV k/\kvs.length<sizeLine/\H'=upd H a (.dK (putK kvs k v)))\/
 ∃kvs k b,H a=some (.dT kvs)/\y=.ref b/\H b=some (.tup (k.map kV))/\kvs.length<sizeLine/\H'=upd H a (.dT (putK kvs k v))
theorem DGet.k{H:Hp}{a:Addr}{kvs:List (Key×V)}{k:Key}(e:H a=some (.dK kvs)):DGet H a (kV k) (valV kvs k):=.inl ⟨kvs,k,.inl e,rfl,rfl⟩
theorem DGet.t{H:Hp}{a b:Addr}{kvs:List (List Key×V)}{k:List Key}(e:H a=some (.dT kvs))(eb:H b=some (.tup (k.map kV))):DGet H a (.ref b) (valV kvs k):=.inr ⟨kvs,k,b,.inl e,rfl,eb,rfl⟩
theorem DPut.k{H:Hp}{a:Addr}{kvs:List (Key×V)}{k:Key}{v:V}(e:H a=some (.dK kvs))(hl:kvs.length<sizeLine):DPut H a (kV k) v (upd H a (.dK (putK kvs k v))):=.inl ⟨kvs,k,e,rfl,hl,rfl⟩
theorem DPut.t{H:Hp}{a b:Addr}{kvs:List (List Key×V)}{k:List Key}{v:V}(e:H a=some (.dT kvs))(eb:H b=some (.tup (k.map kV)))(hl:kvs.length<sizeLine):
  DPut H a (.ref b) v (upd H a (.dT (putK kvs k v))):=.inr ⟨kvs,k,b,e,rfl,eb,hl,rfl⟩
section
variable{X:Cx}{pins:List (Addr×Obj)}{σ:St}{H:Hp}{s:Shared}{a:Addr}{y v:V}{u r:Value}{o:Option V}{A:Around}{E:Value->Shared->Prop}
theorem d_in{Q:Value->Shared->Prop}(hu:A.units+1<cLine)(I:Inv X pins σ H s)(g:DGet H a y o)(ry:RelV y u)(h:∀s',Inv X pins σ H s'->Q (.bool o.isSome) s'):
  wpAny (model X.prog X.w) A (compareOp .In u (.ref a)) Q E s:=by
 rcases g with⟨kvs,k,e,ey,l⟩|⟨kvs,k,b,e,ey,eb,l⟩
 ·subst ey;obtain⟨z,hd,vs,rel,dd⟩:=z9 I.hok e;refine wpAny_in_of (T8 ry) hd dd.mapOf ?_;rw[<-(rel.val k).isSome_eq,<-l];exact h _ (I.tok _)
 ·subst ey;cases (show u=Value.ref b from ry);obtain⟨z,hd,xs,rel,dd⟩:=l4 I.hok e;refine wpAny_in_heap (tupleKind_room_in1 hu) (B1 I.hok eb) hd dd ?_;have q:=(rel.val k).isSome_eq;rw[Option.isSome_map]at q;rw[<-q,<-l];exact h _ (I.tok _)
theorem d_notIn{Q:Value->Shared->Prop}(hu:A.units+1<cLine)(I:Inv X pins σ H s)(g:DGet H a y o)(ry:RelV y u)(h:∀s',Inv X pins σ H s'->Q (.bool (!o.isSome)) s'):
  wpAny (model X.prog X.w) A (compareOp .NotIn u (.ref a)) Q E s:=by
 rcases g with⟨kvs,k,e,ey,l⟩|⟨kvs,k,b,e,ey,eb,l⟩
 ·subst ey;obtain⟨z,hd,vs,rel,dd⟩:=z9 I.hok e;refine wpAny_notIn_of (T8 ry) hd dd.mapOf ?_;rw[<-(rel.val k).isSome_eq,<-l];exact h _ (I.tok _)
 ·subst ey;cases (show u=Value.ref b from ry);obtain⟨z,hd,xs,rel,dd⟩:=l4 I.hok e;refine wpAny_notIn_heap (tupleKind_room_in1 hu) (B1 I.hok eb) hd dd ?_;have q:=(rel.val k).isSome_eq;rw[Option.isSome_map]at q;rw[<-q,<-l];exact h _ (I.tok _)
theorem R8{h':Heap}{t':Nat}{ob:HO}(I:Inv X pins σ H s)(mu:Mut (H a))(hs:Heap.SameBut a s.heap h')(he:∃q,h'.get? a=some q)(new:ObjOk X.prog X.w (upd H a ob) h' a ob):
  Inv X pins σ (upd H a ob) { s with heap:=h',toks:=t' }:=
 I.write (x:=a) (e:=a) mu (.inl rfl) (λb q hb z=>(hs.2 b hb).trans z) he new
theorem qBn{P:Program}{w:World}{H':Hp}{h':Heap}{kvs:List (Key×V)}{vs:List (Key×Value)}(z:kvs.length<=sizeLine)(hd:(a==sysModules)=false)(rel:KV kvs vs)(dd:h'.DictOf (qo P w) a vs):
  ObjOk P w H' h' a (.dK kvs):=⟨z,hd,vs,rel,dd⟩
theorem d_setItem{H':Hp}{Q:Unit->Shared->Prop}(hu:A.units+1<cLine)(I:Inv X pins σ H s)(g:DPut H a y v H')(ry:RelV y u)(rv:RelV v r)(h:∀s',Inv X pins σ H' s'->Q () s'):
  wpAny (model X.prog X.w) A (setItem (.ref a) u r) Q E s:=by
 rcases g with⟨kvs,k,e,ey,l,eH⟩|⟨kvs,k,b,e,ey,eb,l,eH⟩
 ·subst ey eH;obtain⟨z,hd,vs,rel,dd⟩:=qDS I.hok e;have hz:vs.length<=sizeLine:=by rw[<-rel.length];exact z
  have hl:(putK kvs k v).length<=sizeLine:=by have:=QF kvs k v;omega
  refine wpAny_setItem_pairs (hsz:=hz) (T8 ry) dd λh' dd' hs=>h _ ?_;have he:∃q,h'.get? a=some q:=let ⟨q,_,_,hq,_⟩:=dd';⟨q,hq⟩
  exact R8 I (by rw[e];exact True.intro) hs he (qBn hl hd (rel.put k rv) dd')
 ·subst ey eH;cases (show u=Value.ref b from ry);obtain⟨z,hd,xs,rel,dd⟩:=qDH I.hok e;have hz:xs.length<=sizeLine:=by rw[<-Paired.length rel];exact z
  have hl:(putK kvs k v).length<=sizeLine:=by have:=QF kvs k v;omega
  refine wpAny_setItem_heap (hsz:=hz) (tupleKind_room_in1 hu) (B1 I.hok eb) dd λh' dd' hs=>h _ ?_;obtain⟨q,es,ep,hq,h2,h3,h4,_,h5⟩:=dd';refine R8 I (by rw[e];exact True.intro) hs ⟨q,hq⟩ ⟨hl,hd,_,(rel.put k eb rv).keeps λc ys ec=>?_,q,es,ep,hq,h2,h3,h4,h5⟩;rw[qD (qDI ec e (λz=>nomatch z))];exact ec
end
noncomputable def qBS(kvs more:List (Key×V)):List (Key×V):=more.foldl (λacc kv=>putK acc kv.1 kv.2) kvs
structure M1(X:Cx)(o:Expr)(m:Str)(apos:Pos)(e:Expr)(cpos:Pos):Prop where
 base:attributeBase o m X.env (eval o X.env)=eval o X.env
 few:((backTo cpos (starEach [e] X.env)).all (λx=>!x.1)&&(backToKw cpos (keywordEach [] X.env)).all (λx=>x.1.isSome)
  && decide (([e]:List Expr).length+([]:List Keyword).length+(if ([]:List Keyword).isEmpty then 0 else 1)<30))=true
 line:(apos.endLine==cpos.line)=true
 trees:backTo cpos (starEach [e] X.env)=[(false,eval e X.env)]
structure M2(X:Cx)(o:Expr)(m:Str)(apos:Pos)(e f:Expr)(cpos:Pos):Prop where
 base:attributeBase o m X.env (eval o X.env)=eval o X.env
 few:((backTo cpos (starEach [e,f] X.env)).all (λx=>!x.1)&&(backToKw cpos (keywordEach [] X.env)).all (λx=>x.1.isSome)
  && decide (([e,f]:List Expr).length+([]:List Keyword).length+(if ([]:List Keyword).isEmpty then 0 else 1)<30))=true
 line:(apos.endLine==cpos.line)=true
 trees:backTo cpos (starEach [e,f] X.env)=[(false,eval e X.env),(false,eval f X.env)]
end L2
set_option maxHeartbeats 4000000
namespace L2
open PySem PySem.Spec PyProof.Rows
theorem KV.len{kvs:List (Key×V)}{vs:List (Key×Value)}(r:KV kvs vs):vs.length=kvs.length:=(Paired.length r).symm
theorem KV.key{kvs:List (Key×V)}{vs:List (Key×Value)}(r:KV kvs vs){i:Nat}{k:Key×V}(e:kvs[i]?=some k):∃v,vs[i]?=some (k.1,v):=by
 induction r generalizing i with
 |nil=>simp at e
 |cons h t ih=>
  cases i with
  |zero=>cases e;exact⟨_,by rw[List.getElem?_cons_zero];congr 1;exact Prod.ext h.1.symm rfl⟩
  |succ i=>exact ih (by simpa using e)
noncomputable def G7(cells:List (Str×Addr)):List (Str×NameKind)->List (Str×Addr)->List (Str×Addr)
 | [],cs=>cs
 | (n,k)::r,cs=>G7 cells r (if k=.free then (match cells.lookup n with|some c=>(n,c)::cs|none=>cs) else cs)
theorem zb{scope:Scope}{env:Env}(h:∀y∈scope.names,y.2=.free->∃c,env.cells.lookup y.1=some c):closureFor scope env=pure (G7 env.cells scope.names []):=by
 simp only[closureFor];generalize scope.names=names at h;have key:∀(names:List (Str×NameKind)) (cs:List (Str×Addr)),(∀y∈names,y.2=.free->∃c,env.cells.lookup y.1=some c) ->
   (forIn names cs λx r=>if (x.2==NameKind.free)=true then do let c <- cellOf env x.1;pure (ForInStep.yield ((x.1,c)::r)) else pure (ForInStep.yield r))=(pure (G7 env.cells names cs):Sem _):=by
  intro names
  induction names with
  |nil=>intro cs _;rfl
  |cons y r ih=>
   intro cs hy;obtain⟨n,k⟩:=y;rw[List.forIn_cons];by_cases hk:k=.free
   ·subst hk;obtain⟨c,hc⟩:=hy (n,.free) List.mem_cons_self rfl;have hc':List.lookup n env.cells=some c:=hc;have e:cellOf env n=pure c:=by unfold cellOf;rw[hc']
    simp only[vI,if_true,e,pure_bind,G7,hc'];exact ih _ λy hm=>hy y (List.mem_cons_of_mem _ hm)
   ·have hb:(k==NameKind.free)=false:=by simpa using hk
    simp only[hb,Bool.false_eq_true,if_false,pure_bind,G7,if_neg hk];exact ih _ λy hm=>hy y (List.mem_cons_of_mem _ hm)
 rw[key names [] h];rfl
theorem Z8{cells:List (Str×Addr)}{x:Str}{c:Addr}:∀{names:List (Str×NameKind)}{cs:List (Str×Addr)},(G7 cells names cs).lookup x=some c->cs.lookup x=some c\/cells.lookup x=some c
 | [],cs,h=>.inl h
 | (n,k)::r,cs,h=>by
  unfold G7 at h;rcases Z8 h with h2|h2
  ·clear h;by_cases hk:k=.free
   ·rw[if_pos hk]at h2;cases e:cells.lookup n with
    |none=>rw[e]at h2;exact .inl h2
    |some c'=>
     rw[e]at h2;simp only[List.lookup_cons]at h2;cases hx:x==n with
     |true=>
      have hx':x=n:=by simpa using hx
      rw[hx]at h2;subst hx';cases h2;exact .inr e
     |false=>
      rw[hx]at h2;exact .inl h2
   ·rw[if_neg hk]at h2;exact .inl h2
  ·exact .inr h2
theorem Z5{cells:List (Str×Addr)}{x:Str}{c:Addr}(hc:cells.lookup x=some c):∀{names:List (Str×NameKind)}{cs:List (Str×Addr)},((x,NameKind.free)∈names\/cs.lookup x=some c)->(∀c',cs.lookup x=some c'->c'=c)->(G7 cells names cs).lookup x=some c
 | [],cs,h,_=>by
  rcases h with h|h
  ·exact nomatch h
  ·exact h
 | (n,k)::r,cs,h,hu=>by
  unfold G7;refine Z5 hc ?_ ?_
  ·rcases h with h|h
   ·rcases List.mem_cons.mp h with h|h
    ·cases h;right;rw[if_pos rfl,hc];simp
    ·exact .inl h
   ·right;by_cases hk:k=.free
    ·rw[if_pos hk];cases e:cells.lookup n with
     |none=>exact h
     |some c'=>
      simp only[List.lookup_cons];cases hx:x==n with
      |true=>
       have hx':x=n:=by simpa using hx
       subst hx';rw[hc]at e;cases e;rfl
      |false=>exact h
    ·rw[if_neg hk];exact h
  ·intro c' h';by_cases hk:k=.free
   ·rw[if_pos hk]at h';cases e:cells.lookup n with
    |none=>rw[e]at h';exact hu c' h'
    |some c2=>
     rw[e]at h';simp only[List.lookup_cons]at h';cases hx:x==n with
     |true=>
      have hx':x=n:=by simpa using hx
      subst hx';rw[hx]at h';rw[hc]at e;cases e;cases h';rfl
     |false=>
      rw[hx]at h';exact hu c' h'
   ·rw[if_neg hk]at h';exact hu c' h'
theorem jd{env:Env}:∀{names:List (Str×NameKind)}{x:Str},names.lookup x=some .free ->
  (names.map λ(n,k)=>if (k==NameKind.free&&env.scope.kind==.function&&env.kindOf n==some .cell) then (n,NameKind.cell) else (n,k)).lookup x=some .cell\/
  (names.map λ(n,k)=>if (k==NameKind.free&&env.scope.kind==.function&&env.kindOf n==some .cell) then (n,NameKind.cell) else (n,k)).lookup x=some .free
 | [],_,h=>by simp at h
 | (n,k)::r,x,h=>by
  have ih:=@jd env r x;simp only[List.map_cons];cases hx:x==n with
  |true=>
   simp only[List.lookup_cons,hx]at h;cases h;by_cases hc:(NameKind.free==NameKind.free&&env.scope.kind==.function&&env.kindOf n==some .cell)=true
   ·rw[if_pos hc];left;simp[List.lookup_cons,hx]
   ·rw[if_neg hc];right;simp[List.lookup_cons,hx]
  |false=>
   simp only[List.lookup_cons,hx]at h;by_cases hc:(k==NameKind.free&&env.scope.kind==.function&&env.kindOf n==some .cell)=true
   ·rw[if_pos hc];simp only[List.lookup_cons,hx];exact ih h
   ·rw[if_neg hc];simp only[List.lookup_cons,hx];exact ih h
theorem zk{env:Env}:∀{names:List (Str×NameKind)}{x:Str},
  ((names.map λ(n,k)=>if (k==NameKind.free&&env.scope.kind==.function&&env.kindOf n==some .cell) then (n,NameKind.cell) else (n,k)).lookup x=some .cell\/
  (names.map λ(n,k)=>if (k==NameKind.free&&env.scope.kind==.function&&env.kindOf n==some .cell) then (n,NameKind.cell) else (n,k)).lookup x=some .free)->names.lookup x=some .free\/names.lookup x=some .cell
 | [],_,h=>by simp at h
 | (n,k)::r,x,h=>by
  have ih:=@zk env r x;simp only[List.map_cons]at h;cases hx:x==n with
  |true=>
   simp only[List.lookup_cons,hx];by_cases hc:(k==NameKind.free&&env.scope.kind==.function&&env.kindOf n==some .cell)=true
   ·rw[if_pos hc]at h;have hk:k=.free:=by
     cases k<;>first|rfl|(simp at hc)
    rw[hk];exact .inl rfl
   ·rw[if_neg hc]at h;simp only[List.lookup_cons,hx]at h;exact h.symm
  |false=>
   simp only[List.lookup_cons,hx];by_cases hc:(k==NameKind.free&&env.scope.kind==.function&&env.kindOf n==some .cell)=true
   ·rw[if_pos hc]at h;simp only[List.lookup_cons,hx]at h;exact ih h
   ·rw[if_neg hc]at h;simp only[List.lookup_cons,hx]at h;exact ih h
theorem zv:∀(names:List (Str×NameKind)) (a:Nat) (acc:List (Str×Addr)),cellsFrom a names acc=cellsFrom a names []++acc
 | [],a,acc=>rfl
 | (n,k)::r,a,acc=>by
  unfold cellsFrom;split
  ·rw[zv r (a+1) ((n,a)::acc),zv r (a+1) [(n,a)],wM];rfl
  ·exact zv r a acc
theorem Qw{x:Str}{c:Addr}:∀{names:List (Str×NameKind)}{a:Nat},(x,c)∈cellsFrom a names []->(x,NameKind.cell)∈names
 | [],a,h=>nomatch h
 | (n,k)::r,a,h=>by
  unfold cellsFrom at h;split at h
  ·rename_i hk;rw[zv,wD]at h;rcases h with h|h
   ·exact List.mem_cons_of_mem _ (Qw h)
   ·have:(x,c)=(n,a):=List.mem_singleton.mp h;cases this;rw[beq_iff_eq.mp hk];exact List.mem_cons_self
  ·exact List.mem_cons_of_mem _ (Qw h)
theorem D2{x:Str}:∀{names:List (Str×NameKind)}{a:Nat},(x,NameKind.cell)∈names->∃c,(cellsFrom a names []).lookup x=some c
 | [],a,h=>nomatch h
 | (n,k)::r,a,h=>by
  unfold cellsFrom;rcases List.mem_cons.mp h with h|h
  ·cases h;rw[if_pos (by decide),zv,wb];cases (cellsFrom (a+1) r []).lookup x with
   |none=>exact⟨a,by simp⟩
   |some c=>exact⟨c,rfl⟩
  ·split
   ·obtain⟨c,hc⟩:=D2 (a:=a+1) h;exact⟨c,by rw[zv,wb,hc];rfl⟩
   ·exact D2 h
noncomputable def zi(X:Cx)(scope:Scope)(C:Addr):List (Str×Addr):=cellsFrom (C+1) scope.names (G7 X.env.cells scope.names [])
noncomputable def cxComp(X:Cx)(scope:Scope)(C:Addr)(fp:List Addr)(s₂:Shared)(H₂:Hp)(N:List Str):Cx:=
 { X with N:=N,s₀:=s₂,H₀:=H₂,env:=compEnvC scope (zi X scope C) C X.env,outer:=X.stack,ex:=fp,fn:=λx=>decide (scope.names.lookup x=some .cell),pn:=[],xe:=λ_ _=>False }
noncomputable def inner(src:List (Option Nat))(σ:St):St:=src.map λo=>match o with|none=>none|some j=>(σ[j]?).join
structure CompScope(X:Cx)(scope:Scope)(N:List Str)(src:List (Option Nat)):Prop where
 kind:scope.kind=.function
 uniq:∀y∈scope.names,scope.names.lookup y.1=some y.2
 frees:∀y∈scope.names,y.2=NameKind.free->X.env.kindOf y.1=some .cell\/X.env.kindOf y.1=some .free
 nd:N.Nodup
 len:src.length=N.length
 from_:∀(i:Nat) x j,N[i]?=some x->src[i]?=some (some j)->X.N[j]?=some x/\scope.names.lookup x=some .free
theorem qf{x:Str}{k:NameKind}:∀{names:List (Str×NameKind)},names.lookup x=some k->(x,k)∈names
 | [],h=>by simp at h
 | (n,k')::r,h=>by
  cases hx:x==n with
  |true=>
   simp only[List.lookup_cons,hx]at h;have hx':x=n:=by simpa using hx
   cases h;subst hx';exact List.mem_cons_self
  |false=>
   simp only[List.lookup_cons,hx]at h;exact List.mem_cons_of_mem _ (qf h)
section
variable{X:Cx}{pins:List (Addr×Obj)}{σ:St}{H₂:Hp}{s₂:Shared}{scope:Scope}{N:List Str}{src:List (Option Nat)}{fp:List Addr}
theorem CompScope.cells(S:CompScope X scope N src)(ok:X.Ok):∀y∈scope.names,y.2=.free->∃c,X.env.cells.lookup y.1=some c:=λy hy hk=>ok.has y.1 (S.frees y hy hk)
theorem CompScope.names(S:CompScope X scope N src):∀y∈scope.names,y.2=NameKind.local->scope.names.lookup y.1=some .local:=λy hy hk=>by rw[<-hk];exact S.uniq y hy
theorem qz{C:Addr}{h₁:Heap}(ow:CellsOk h₁ (C+1) (cellsFrom (C+1) scope.names [])){x:Str}{c:Addr}(h:(zi X scope C).lookup x=some c):
  ((x,c)∈cellsFrom (C+1) scope.names []/\(x,NameKind.cell)∈scope.names/\h₁.IsCell c none/\C<c)\/X.env.cells.lookup x=some c:=by
 unfold zi at h;rw[zv,wb]at h;cases e:(cellsFrom (C+1) scope.names []).lookup x with
 |some c'=>
  rw[e]at h;cases h;have m:=PySem.mem_of_lookup e;exact .inl ⟨m,Qw m,(ow.empty x c m).1,(ow.empty x c m).2⟩
 |none=>
  rw[e]at h;rcases Z8 (show (G7 X.env.cells scope.names []).lookup x=some c by simpa using h) with h|h
  ·simp at h
  ·exact .inr h
theorem Qr(S:CompScope X scope N src){C:Addr}{x:Str}{c:Addr}(hf:scope.names.lookup x=some .free)(h:X.env.cells.lookup x=some c):(zi X scope C).lookup x=some c:=by
 unfold zi;rw[zv,wb];have:(cellsFrom (C+1) scope.names []).lookup x=none:=by
  cases e:(cellsFrom (C+1) scope.names []).lookup x with
  |none=>rfl
  |some c'=>
   have:=S.uniq _ (Qw (PySem.mem_of_lookup e));rw[hf]at this;cases this
 rw[this,Z5 h (.inl (qf hf)) (by intro c' h';simp at h')];rfl
theorem n9(S:CompScope X scope N src)(I:Inv X pins σ H₂ s₂)(f2:∀b∈fp,QU X pins H₂ b)(ob:∀b∈fp,∃o,s₂.heap.get? b=some o/\∀v,o.data≠.cell v){C:Addr}(hC:s₂.heap.objs.size<=C){h₁:Heap}(ow:CellsOk h₁ (C+1) (cellsFrom (C+1) scope.names [])):
  (cxComp X scope C fp s₂ H₂ N).Ok:=by
 have lt:∀x c,X.env.cells.lookup x=some c->c<s₂.heap.objs.size:=λx c h=>let ⟨v,q⟩:=I.cell x c h;q.lt
 refine⟨I.ok.mod,S.kind,I.ok.glob,I.ok.blt,hC,λx y c h1 h2=>?_,λx hx=>?_,λx c hf h=>?_,I.ok.hd,I.ok.frames,.inl rfl,λb hb=>⟨?_,λx c h=>?_⟩,λb o e=>I.bs b o e,?_,λb o e hb=>?_,λb hb=>?_,I.stack,I.stkFree⟩
 ·rcases qz ow h1 with⟨m1,_,_,g1⟩|g1<;>rcases qz ow h2 with⟨m2,_,_,g2⟩|g2
  ·exact PySem.name_of_addr ow.apart m1 m2
  ·exact absurd (wX (wC (lt y c g2) hC) g1) (Nat.lt_irrefl _)
  ·exact absurd (wX (wC (lt x c g1) hC) g2) (Nat.lt_irrefl _)
  ·exact I.ok.inj x y c g1 g2
 ·rcases zk hx with hf|hf
  ·obtain⟨c,hc⟩:=S.cells I.ok (x,.free) (qf hf) rfl;exact⟨c,Qr S hf hc⟩
  ·obtain⟨c,hc⟩:=D2 (a:=C+1) (qf hf);exact⟨c,by show (zi X scope C).lookup x=_;unfold zi;rw[zv,wb,hc];rfl⟩
 ·have hf':scope.names.lookup x=some .cell:=vG hf;rcases qz ow h with⟨_,_,_,g⟩|g
  ·exact wk (Nat.lt_of_le_of_lt hC g)
  ·unfold cxComp at h;have h:(zi X scope C).lookup x=some c:=h;obtain⟨c',hc'⟩:=D2 (a:=C+1) (qf hf');have e:(zi X scope C).lookup x=some c':=by unfold zi;rw[zv,wb,hc'];rfl
   rw[e]at h;cases h;have:=(ow.empty x c (PySem.mem_of_lookup hc')).2;exact Nat.le_trans hC (Nat.le_of_succ_le this)
 ·obtain⟨o,e,_⟩:=ob b hb;exact wJ (wC (Heap.lt_size e) hC)
 ·rcases qz ow h with⟨_,_,_,g⟩|g
  ·obtain⟨o,e,_⟩:=ob b hb;exact Nat.ne_of_gt (wX (wC (Heap.lt_size e) hC) g)
  ·exact(f2 b hb).2.2.2.2.1 x c g
 ·exact Nat.le_trans I.ok.bsz I.sz
 ·rcases(f2 b hb).2.2.2.1 with z|z
  ·exact I.ok.noex b o e z
  ·exact absurd (wC (Heap.lt_size e) (Nat.le_trans I.ok.bsz z)) (Nat.lt_irrefl _)
 ·intro hz;rcases List.mem_cons.mp (I.stkSub b hz) with e|e
  ·exact(f2 b hb).2.1 e
  ·exact(f2 b hb).2.2.1 e
theorem ZM(S:CompScope X scope N src)(I:Inv X pins σ H₂ s₂)(f2:∀b∈fp,QU X pins H₂ b)(ob:∀b∈fp,∃o,s₂.heap.get? b=some o/\∀v,o.data≠.cell v){C:Addr}{h₁:Heap}{m:Str->Option Value}{tk n:Nat}
  (hC:s₂.heap.objs.size<C) (keep:∀b o,s₂.heap.get? b=some o->h₁.get? b=some o) (hD:h₁.get? s₂.heap.objs.size=some { cls:=.type "list",data:=.seq #[] n }) (hn:h₁.Ns C m) (ow:CellsOk h₁ (C+1) (cellsFrom (C+1) scope.names [])):
  Inv (cxComp X scope C fp s₂ H₂ N) [] (inner src σ) (upd H₂ s₂.heap.objs.size (.lst [])) { s₂ with heap:=h₁,toks:=tk }:=by
 have lt:∀x c,X.env.cells.lookup x=some c->c<s₂.heap.objs.size:=λx c h=>let ⟨v,q⟩:=I.cell x c h;q.lt
 have hfr:H₂ s₂.heap.objs.size=none:=I.hok.fresh (Nat.le_refl _);refine⟨n9 S I f2 ob (wk hC) ow,rfl,I.bare,Un.laid keep (Nat.le_refl _) hfr,⟨m,hn,λi x v e1 e2 e3=>?_⟩,λx c h=>?_,?_,λx c h=>?_,λp hp=>absurd (show p∈([]:List (Addr×Obj)) from hp) (by simp),I.hok.laid keep (Nat.le_refl _) ⟨by simp,[],n,.nil,hD⟩,?_⟩
 ·have e2':(inner src σ)[i]?=some (some v):=e2;unfold inner at e2';rw[wK]at e2';cases q:src[i]? with
  |none=>rw[q]at e2';cases e2'
  |some o=>
   rw[q]at e2';cases o with
   |none=>cases e2'
   |some j=>
    have ej:(σ[j]?).join=some v:=Option.some.inj e2';have ej':σ[j]?=some (some v):=by
     cases z:σ[j]? with
     |none=>rw[z]at ej;cases ej
     |some w=>rw[z]at ej;exact congrArg some ej
    obtain⟨n1,n2⟩:=S.from_ i x j e1 q;obtain⟨m0,hn0,hl⟩:=I.loc;have hfr':=S.frees (x,.free) (qf n2) rfl;obtain⟨u,r,l⟩:=hl j x v n1 ej' (by rcases hfr' with z|z;exact .inr (.inl z);exact .inr (.inr z));refine⟨u,r,.inr ⟨jd n2,?_⟩⟩;rcases l with⟨k,_⟩|⟨_,c,hc,o,ho,hd⟩
    ·have k':X.env.kindOf x=some .local:=k;rcases hfr' with z|z
     ·have z':X.env.kindOf x=some .cell:=z;rw[k']at z';cases z'
     ·have z':X.env.kindOf x=some .free:=z;rw[k']at z';cases z'
    ·exact⟨c,Qr S n2 hc,o,keep c o ho,hd⟩
 ·rcases qz ow h with⟨_,_,g,_⟩|g
  ·exact⟨none,g⟩
  ·obtain⟨v,o,ho,hd⟩:=I.cell x c g;exact⟨v,o,keep c o ho,hd⟩
 ·show upd H₂ s₂.heap.objs.size (.lst []) C=none;rw[qD (Nat.ne_of_gt hC)];exact I.hok.fresh (wk hC)
 ·rcases qz ow h with⟨_,_,_,g⟩|g
  ·rw[qD (Nat.ne_of_gt (wX hC g))];exact I.hok.fresh (wk (wX hC g))
  ·rw[qD (wJ (lt x c g))];exact I.freeC x c g
 ·show (inner src σ).length=N.length;unfold inner;rw[wL,S.len]
theorem Zk(I:Inv X pins σ H₂ s₂)(f2:∀b∈fp,QU X pins H₂ b){C:Addr}{pins':List (Addr×Obj)}{σ':St}{H':Hp}{s':Shared}{h':Heap}(hC:s₂.heap.objs.size<=C)(J:Inv (cxComp X scope C fp s₂ H₂ N) pins' σ' H' s')
  (kp:∀b o,b≠C->s'.heap.get? b=some o->h'.get? b=some o):Inv X pins σ H' { s' with heap:=h' }:=by
 have neC:∀b o,s₂.heap.get? b=some o->b≠C:=λb o e=>wJ (wC (Heap.lt_size e) hC);have B:=J.base;refine I.call' (s':={ s' with heap:=h' }) (ch:=fp) J.os ⟨λb o e n hb hx=>kp b o (neC b o e) (B.keep b o e n hb hx),λb o e n hb hx=>?_,B.free,λb o e hx=>?_,B.tups,B.frzs,B.tbls⟩ (λa o e=>?_) J.bare λb hb=>⟨(f2 b hb).2.2.2.1,(f2 b hb).2.1,(f2 b hb).2.2.2.2⟩
 ·obtain⟨sl,q⟩:=B.slot b o e n hb hx;exact⟨sl,kp b _ (neC b o e) q⟩
 ·obtain⟨o',q⟩:=B.there b o e hx;exact⟨o',kp b o' (neC b o e) q⟩
 ·have nC:H' C=none:=J.free;have ne:∀b u,H' b=some u->b≠C:=λb u q z=>by rw[z,nC]at q;cases q
  refine(J.hok a o e).stay (λc v hc q=>kp c v ?_ q) (λ_ q=>q) λ_ _ q=>q;rcases hc with z|z
  ·rw[z];exact ne a o e
  ·exact ne c _ z
end
def PTs(X:Cx)(ifs:List Expr)(t:TT):Prop:=
 ∀(pins:List (Addr×Obj)) (s:Shared) (σ:St) (H:Hp) (Q:Bool->Hp->Prop),Inv X pins σ H s->t σ H Q ->
  wpAny (model X.prog X.w) X.A (forIn ifs true λc r=>if r=true then do let ok <- isTrue c X.env (eval c X.env);pure (ForInStep.yield ok) else pure (ForInStep.yield r)) (TP X pins σ Q) X.xe s
theorem pts_nil{X:Cx}:PTs X [] (λ_ H Q=>Q true H):=λpins s σ H Q I h=>vC ⟨H,I,h⟩
theorem pts_one{X:Cx}{c:Expr}{t:TT}(hc:PT X c t):PTs X [c] t:=by
 intro pins s σ H Q I h;rw[List.forIn_cons];simp only[if_true];refine vB (vB (thn (hc pins s σ H Q I h) λb s1 q=>?_));exact vC (vC q)
noncomputable def tComp(wi:TI)(src:List (Option Nat))(g:TG)(tc:TT)(te:TE):TE:=λσ H Q=>wi σ H λJ H1=>∀D,H1 D=none ->
 ∃W:Nat->Nat->List V->St->Hp->Prop,(∃m,W 0 m [] (inner src σ) (upd H1 D (.lst [])))/\∀i m ys σ' H',W i m ys σ' H'->H' D=some (.lst ys) ->
  (J.stop i H'/\Q (.ref D) H')\/
  (J.go i H'/\∀x H2,J.yld i H' x H2->g x σ' H2 λσ3 H3=>tc σ3 H3 λb H4=>
   if b=true then te σ3 H4 λy H5=>H5 D=some (.lst ys)/\ys.length<sizeLine/\∃m',m'<m/\W (i+1) m' (ys++[y]) σ3 (upd H5 D (.lst (ys++[y])))
   else H4 D=some (.lst ys)/\∃m',m'<m/\W (i+1) m' ys σ3 H4)
section
variable{X:Cx}{pins:List (Addr×Obj)}{σ:St}{H₂:Hp}{s₂:Shared}{scope:Scope}{N:List Str}{src:List (Option Nat)}
theorem JV{M:Model}{A:Around}{E:Value->Shared->Prop}{s:Shared}{scope:Scope}{globals:Addr}{cl:List (Str×Addr)}{qual:Str}{env:Env}{Q:Env->Shared->Prop}
  (h:Q (newEnv scope s.heap.objs.size globals (cellsFrom (s.heap.objs.size+1) scope.names cl) qual none .none (some env) builtinsNs) { s with heap:=pushCells (s.heap.push { cls:=.type "dict",data:=.dict #[] }) scope.names }):
  wpAny M A (newFunctionEnv scope globals cl [] qual none .none (some env)) Q E s:=by
 simp only[newFunctionEnv,Option.isSome_some,if_true];refine vB (wpAny_alloc ?_);refine vB (wpAny_layCells _ (λname kind cells=>by cases hkc:kind==NameKind.cell<;>simp[hkc]) _ _ _ _ ?_);rw[show ({ s with heap:=s.heap.push { cls:=.type "dict",data:=.dict #[] } }:Shared).heap.objs.size=s.heap.objs.size+1 from Heap.size_push ..];refine vB ?_;rw[List.forIn_nil];exact vC (vC h)
theorem A6{elt tg iter:Expr}{ifs:List Expr}{pos:Pos}{g:TG}{tc:TT}{te:TE}{it:Addr}{fp:List Addr}{tn:Nat->Heap->Prop}{J:It}{Q:VK}{E:Value->Shared->Prop}{RR:Value->Addr->Result->Shared->Prop}
  (hc:X.calm=true) (S:CompScope X scope N src) (I2:Inv X pins σ H₂ s₂) (T:ZS X.prog X.w X.K tg J fp it tn) (st2:tn 0 s₂.heap) (f2:∀b∈fp,QU X pins H₂ b)
  (hg:∀C fp s H,PG (cxComp X scope C fp s H N) tg g) (ht:∀C fp s H,PTs (cxComp X scope C fp s H N) ifs tc) (he:∀C fp s H,PE (cxComp X scope C fp s H N) elt te)
  (h:∀D,H₂ D=none->∃W:Nat->Nat->List V->St->Hp->Prop,(∃m,W 0 m [] (inner src σ) (upd H₂ D (.lst [])))/\∀i m ys σ' H',W i m ys σ' H'->H' D=some (.lst ys) ->
   (J.stop i H'/\Q (.ref D) H')\/
   (J.go i H'/\∀x H2,J.yld i H' x H2->g x σ' H2 λσ3 H3=>tc σ3 H3 λb H4=>
    if b=true then te σ3 H4 λy H5=>H5 D=some (.lst ys)/\ys.length<sizeLine/\∃m',m'<m/\W (i+1) m' (ys++[y]) σ3 (upd H5 D (.lst (ys++[y])))
    else H4 D=some (.lst ys)/\∃m',m'<m/\W (i+1) m' ys σ3 H4))
  (hRR:∀(D C:Addr) (σ':St) (H':Hp) (s':Shared),s₂.heap.objs.size<=C->Inv (cxComp X scope C fp s₂ H₂ N) [] σ' H' s'->Q (.ref D) H'->RR (.ref D) C (.ok .next) s'):
  wpAny (model X.prog X.w) X.A (newList []) (λacc s₃=>wpAny (model X.prog X.w) X.A (newFunctionEnv scope X.env.globals (G7 X.env.cells scope.names []) [] X.env.qual none .none (some X.env)) (λcenv s₄=>
   codeAny (model X.prog X.w) X.A (.compStart (.ListComp elt [⟨tg,iter,ifs,0⟩] scope pos) 0 (.ref it) acc { cenv with scope:=relabel scope X.env }) (RR acc cenv.locals) s₄) E s₃) E s₂:=by
 refine wpAny_newObj_type (JV ?_);dsimp only;generalize hH2:s₂.heap.push { cls:=.type "list",dict:=none,data:=.seq ([]:List Value).toArray }=P2;have hC:P2.objs.size=s₂.heap.objs.size+1:=by rw[<-hH2,Heap.size_push]
 have ow:=cellsFrom_ok scope.names (P2.push { cls:=.type "dict",data:=.dict #[] }) (P2.objs.size+1) [] ⟨λ_ _ hm=>(nomatch hm),List.Pairwise.nil⟩ (by rw[Heap.size_push];exact Nat.le_refl _);rw[Heap.size_push]at ow;generalize hh1:pushCells (P2.push { cls:=.type "dict",data:=.dict #[] }) scope.names=h₁ at ow ⊢;have kp:∀b o,P2.get? b=some o->h₁.get? b=some o:=λb o e=>hh1 ▸ pushCells_keeps _ _ b o (Heap.get?_push_of_some _ e);have hns₁:h₁.Ns P2.objs.size (λ_=>none):=hh1 ▸ (Heap.Ns.new P2 (.type "dict")).keeps (pushCells_keeps _ _);have old:∀b o,s₂.heap.get? b=some o->h₁.get? b=some o:=λb o e=>kp b o (hH2 ▸ Heap.get?_push_of_some _ e);have hacc:h₁.get? s₂.heap.objs.size=some { cls:=.type "list",data:=.seq #[] }:=kp _ _ (hH2 ▸ Heap.get?_push_size _ rfl);have st1:tn 0 h₁:=T.keep _ _ _ st2 λb _ o e=>old b o e;have ob:=T.obj _ _ st2;have lt:s₂.heap.objs.size<P2.objs.size:=by rw[hC];exact Nat.lt_succ_self _
 have I3:=ZM (tk:=s₂.toks) S I2 f2 ob lt old hacc hns₁ ow;obtain⟨W,⟨m0,w0⟩,step⟩:=h s₂.heap.objs.size I2.fresh;have fpn:∀b∈fp,b≠s₂.heap.objs.size:=λb hb=>by
  obtain⟨o,e,_⟩:=ob b hb;exact wJ (Heap.lt_size e)
 have fok:∀{pins':List (Addr×Obj)}{H':Hp},(∀b∈fp,H' b=none)->(∀p∈pins',p.1∉fp)->∀b∈fp,QU (cxComp X scope P2.objs.size fp s₂ H₂ N) pins' H' b:=λ{pins' H'} hn hp b hb=>by
  have okc:=I3.ok;exact⟨hn b hb,(okc.exf b hb).1,okc.exfs b hb,.inl hb,(okc.exf b hb).2,λp hp' z=>hp p (by simpa [cxComp] using hp') (z ▸ hb)⟩
 have loop:∀s₃:Shared,s₃={ s₂ with heap:=h₁,toks:=s₂.toks } ->
   codeAny (model X.prog X.w) X.A (.compLoop (.ListComp elt [⟨tg,iter,ifs,0⟩] scope pos) 0 (.ref it) (.ref s₂.heap.objs.size) (compEnvC scope (zi X scope P2.objs.size) P2.objs.size X.env))
    (RR (.ref s₂.heap.objs.size) P2.objs.size) s₃:=by
  rintro s₃ rfl;refine codeAny_loop rfl (λn s'=>∃i ys σ' H',Inv (cxComp X scope P2.objs.size fp s₂ H₂ N) [] σ' H' s'/\tn i s'.heap/\(∀b∈fp,H' b=none)/\H' s₂.heap.objs.size=some (.lst ys)/\W i n ys σ' H') (λn s' hI=>?_) m0
   ⟨0,[],inner src σ,_,I3,st1,λb hb=>by rw[qD (fpn b hb)];exact(f2 b hb).1,qF,w0⟩
  obtain⟨i,ys,σ3,H3,J3,st3,fr3,hD3,w3⟩:=hI;show wpAny _ X.A ((compTurn (.ListComp elt [⟨tg,iter,ifs,0⟩] scope pos) 0 (.ref it) (.ref s₂.heap.objs.size) _).onRaise (λx=>do noteFrame x _;theTreesLotGoes x)) _ _ s';refine wpAny_noted ?_;rw[compTurn_list];have never:∀{α:Type}{t:Sem α}{Q1:α->Shared->Prop}{E1:Value->Shared->Prop}{s1:Shared},wpAny (model X.prog X.w) X.A t Q1 (λ_ _=>False) s1->wpAny (model X.prog X.w) X.A t Q1 E1 s1:=λh=>wpAny_mono h (λ_ _ q=>q) λ_ _ f=>f.elim;refine vB (wpAny_standAt (vB ?_));rcases step i n ys σ3 H3 w3 hD3 with⟨stop,qn⟩|⟨go,qA0⟩
  ·refine never (thn (T.done (cxComp X scope P2.objs.size fp s₂ H₂ N) rfl rfl rfl hc i [] s' σ3 H3 _ J3 (fok fr3 (by simp)) st3 stop) λr s4 ⟨hr,I4⟩=>?_);subst hr;exact vC (hRR _ _ σ3 H3 s4 (wk lt) I4 qn)
  ·refine never (thn (T.item (cxComp X scope P2.objs.size fp s₂ H₂ N) rfl rfl rfl hc i [] s' σ3 H3 _ J3 (fok fr3 (by simp)) st3 go) λr s4 ⟨u,hr,h4⟩=>?_);subst hr;refine vB (never (thn h4 λ_ s5 ⟨x,H5,I5,r5,y5,st5,fr5⟩=>?_));have I5':=I5.pinned (fok fr5 (by simp)) (T.obj _ _ st5);have kept:∀{σ7:St}{H7:Hp}{s7:Shared},Inv (cxComp X scope P2.objs.size fp s₂ H₂ N) ([]++ZZ fp s5.heap) σ7 H7 s7->Inv (cxComp X scope P2.objs.size fp s₂ H₂ N) [] σ7 H7 s7/\tn (i+1) s7.heap/\∀b∈fp,H7 b=none:=λ{σ7 H7 s7} I7=>by
    refine⟨I7.unpinned,T.keep _ _ _ st5 λb hb o e=>(I7.pin (b,o) (wH _ (wH _ (zo hb e)))).1,λb hb=>?_⟩;obtain⟨o,e,d⟩:=T.obj _ _ st5 b hb;exact(I7.pin (b,o) (wH _ (wH _ (zo hb e)))).2.1
   refine vB (never (thn (hg _ _ _ _ _ s5 σ3 H5 x u _ I5' r5 (qA0 x H5 y5)) λ_ s6 ⟨σ6,H6,I6,q6⟩=>?_));refine vB (never (thn (ht _ _ _ _ _ s6 σ6 H6 _ I6 q6) λb s7 ⟨H7,I7,q7⟩=>?_));cases b with
   |false=>
    rw[if_neg (by decide)]at q7;obtain⟨hD7,m',hm,w7⟩:=q7;obtain⟨I7',st7,fr7⟩:=kept I7;exact vC ⟨rfl,m',hm,i+1,ys,σ6,H7,I7',st7,fr7,hD7,w7⟩
   |true=>
    rw[if_pos rfl]at q7;refine vB (vB (never (thn (he _ _ _ _ _ s7 σ6 H7 _ I7 q7) λyv s8 ⟨y,H8,I8,r8,hD8,hz,m',hm,w8⟩=>?_)));refine vB (never (thn (mt_append (X:=cxComp X scope P2.objs.size fp s₂ H₂ N) _ s8 σ6 H8 (.ref s₂.heap.objs.size) [y] _ [yv] (λv H'=>v=.non/\H'=upd H8 s₂.heap.objs.size (.lst (ys++[y]))) I8 rfl (.cons r8 .nil) ⟨_,ys,y,rfl,rfl,hD8,hz,rfl,rfl⟩) λ_ s9 ⟨v9,H9,I9,_,_,e9⟩=>?_));subst e9;obtain⟨I9',st9,fr9⟩:=kept I9;exact vC (vC ⟨rfl,m',hm,i+1,_,σ6,_,I9',st9,fr9,qF,w8⟩)
 exact codeAny_compStart_list (loop _ rfl) (T.self _ 0 _ _ _ st1 (loop _ rfl))
end
section
variable{X:Cx}{scope:Scope}{N:List Str}{src:List (Option Nat)}{elt tg iter:Expr}{ifs:List Expr}{pos:Pos}{wi:TI}{g:TG}{tc:TT}{te:TE}
theorem pe_comp(hc:X.calm=true)(hi:PI X tg iter wi)(S:CompScope X scope N src)
  (hg:∀C fp s H,PG (cxComp X scope C fp s H N) tg g) (ht:∀C fp s H,PTs (cxComp X scope C fp s H N) ifs tc) (he:∀C fp s H,PE (cxComp X scope C fp s H N) elt te)
  (hs:∀x,foldedSetIterable iter X.env x=pure x:=by intro _;rfl):PE X (.ListComp elt [⟨tg,iter,ifs,0⟩] scope pos) (tComp wi src g tc te):=by
 intro pins s σ H Q I h;rw[eval_ListComp];refine wpAny_comprehension_free (use:=none) rfl hs (zb (S.cells I.ok)) S.kind S.names (thn (hi pins s σ H _ I h) λv s1 h1=>thn h1 λitv s2 h2=>?_);obtain⟨it,fp,tn,J,H2,rfl,I2,T,st2,f2,hW⟩:=h2;refine A6 (Q:=Q) (RR:=λacc C=>compPost (model X.prog X.w) X.A X.xe none (EP X pins σ Q) acc C) hc S I2 T st2 f2 hg ht he hW ?_;intro D C σ' H' s' hC J q;obtain⟨m,hn,_⟩:=id J.loc;exact⟨m,hn,λh' hs'=>⟨.ref D,H',Zk I2 f2 hC J (λb o hb e=>hs'.extBut b o hb e),rfl,q⟩⟩
theorem ps_setcomp{i:Nat}{x:Str}{pos' spos:Pos}(hc:X.calm=true)(hi:PI X tg iter wi)(S:CompScope X scope N src)
  (hg:∀C fp s H,PG (cxComp X scope C fp s H N) tg g) (ht:∀C fp s H,PTs (cxComp X scope C fp s H N) ifs tc) (he:∀C fp s H,PE (cxComp X scope C fp s H N) elt te)
  (hsw:swapsWith (.ListComp elt [⟨tg,iter,ifs,0⟩] scope pos) (some (.Name x pos')) spos.line X.env=pure true)
  (hN:X.N.Nodup) (hx:X.N[i]?=some x) (hl:X.env.scope.names.lookup x=some .local)
  (hs:∀x,foldedSetIterable iter X.env x=pure x:=by intro _;rfl):PS X (.Assign [.Name x pos'] (.ListComp elt [⟨tg,iter,ifs,0⟩] scope pos) spos) (tAsg (tComp wi src g tc te) (l9 i)):=by
 intro pins s σ H D I h;rw[exec_Assign_Name_used _ _ _ _ hsw];refine vB (wpAny_standAt (vB ?_));show wpAny _ X.A (do let _ <- comprehension (.ListComp elt [⟨tg,iter,ifs,0⟩] scope pos) scope X.env _ (newList []) false (eval iter X.env) (some (assign (.Name x pos') X.env))) _ _ s;refine vB (wpAny_mono (wpAny_comprehension_free (use:=some (assign (.Name x pos') X.env)) (Q:=λ_ s'=>SP X pins D .next s') rfl hs (zb (S.cells I.ok)) S.kind S.names
  (thn (hi pins s σ H _ I h) λv s1 h1=>thn h1 λitv s2 h2=>?_)) (λ_ s' hq=>vC (vC hq)) λ_ _ e=>e)
 obtain⟨it,fp,tn,J,H2,rfl,I2,T,st2,f2,hW⟩:=h2;refine A6 (Q:=λv H'=>D.nx (σ.set i (some v)) H') (RR:=λacc C=>compPost (model X.prog X.w) X.A X.xe (some (assign (.Name x pos') X.env)) (λ_ s'=>SP X pins D .next s') acc C) hc S I2 T st2 f2 hg ht he hW ?_;intro L C σ' H' s' hC J q;obtain⟨m,hn,_⟩:=id J.loc;have I3:Inv X pins σ H' s':=Zk (h':=s'.heap) I2 f2 hC J (λb o hb e=>e);show wpAny _ X.A (assign (.Name x pos') X.env (.ref L)) _ _ _;have nL:X.env.locals≠C:=wJ (wC I2.lt hC);refine wpAny_assign_Name (Zh I3 hN hx (.inl hl) (show RelV (.ref L) (.ref L) from rfl) (λs4 I4 hsb=>?_) (.inr hl));obtain⟨a,sb,ha⟩:=hsb;have ha':a≠C:=by
  rcases ha with z|z
  ·rw[z];exact nL
  ·obtain⟨v,hv⟩:=I2.cell x a z;exact wJ (wC hv.lt hC)
 refine⟨m,hn.sameBut sb (Ne.symm ha'),λh5 sb5=>?_⟩;have I5:Inv X pins (σ.set i (some (V.ref L))) H' { s4 with heap:=h5,toks:=s4.toks }:=I4.turned (it:=C) (λb o hb e=>sb5.extBut b o hb e) J.free (Ne.symm nL) (.inr (Nat.le_trans I2.sz hC)) (λy c e z=>by
   obtain⟨v,hv⟩:=I2.cell y c e;exact absurd (wC hv.lt (by rw[z];exact hC)) (Nat.lt_irrefl _)) λp hp z=>absurd (wC (Heap.lt_size (I2.pin p hp).1) (by rw[z];exact hC)) (Nat.lt_irrefl _)
 exact⟨_,H',I5,q⟩
end
end L2
namespace PI
open L2 (V Key)
open PySem (Str)
inductive BOp|add|sub|mul|fdiv|mod|pow|band|shl
 deriving DecidableEq
inductive COp|lt|le|gt|ge|eq|ne|inn|notin|is|isnot
 deriving DecidableEq
inductive BF|len|all|max|min|list|int|bits
 deriving DecidableEq
inductive Mt|pop|popAt|rev|clr|ext|ins
 deriving DecidableEq
inductive Tg|name(i:Nat)|tup(is:List Nat)
 deriving DecidableEq
mutual
inductive E
 |var (i:Nat)|cst (v:V)|glob (g:Nat)
 |bin (op:BOp) (a b:E)|neg (a:E)
 |cmp (op:COp) (a b:E)|cmp2 (o1 o2:COp) (a b c:E)
 |and (a b:E)|or (a b:E)|not (a:E)|ite (c a b:E)
 |call (f:Nat) (as:Es)|blt (f:BF) (as:Es)|isi (a:E) (ts:List String)
 |idx (a b:E)|sl (a:E) (lo hi:Es)   | lst (as:Es)|tup (as:Es)
 |comp (it:Itr) (src:List (Option Nat)) (g:Tg) (c:Es) (e:E)
 |app (a b:E)  | dnew|meth (m:Mt) (a:E) (as:Es)
inductive Es|nil|cons(a:E)(as:Es)
inductive Itr|list(a:E)|rng1(a:E)  | zip(a b:E)|enum(a:E)
end
mutual
inductive S
 |asg (g:Tg) (e:E)  | put (o i v:E)
 |expr (e:E)|ret (e:E)  | ifs (c:E) (t u:Ss)
 |for_ (g:Tg) (it:Itr) (b:Ss)     | stop
 |xexpr (f:Nat) (as:Es)  | raise (c:Nat)|tryK (b:S) (e i m:Nat) (ks:List Nat)|xasg (i f:Nat) (as:Es)|xret (f:Nat) (as:Es)|xrn (o:COp) (f:Nat) (as:Es)
inductive Ss|nil|cons(s:S)(r:Ss)
end
noncomputable def Es.snoc:Es->E->Es
 | .nil,e=>.cons e .nil
 | .cons a as,e=>.cons a (Es.snoc as e)
inductive Ob|dct(kvs:List (Int×V))|exn(c:Str)
 deriving DecidableEq
inductive O|lst(fz:Bool)(xs:List V)|tup(xs:List V)|ob(o:Ob)
 deriving DecidableEq
noncomputable abbrev AH:=List O
noncomputable abbrev St:=List (Option V)
inductive Res(α:Type)|ok(a:α)|exc(c:Nat)(h:AH)|stuck
noncomputable def Res.bind{α β:Type}:Res α->(α->Res β)->Res β
 | .ok a,f=>f a
 | .exc c h,_=>.exc c h
 | .stuck,_=>.stuck
noncomputable def Res.nx{α:Type}:Res α->Res α
 | .ok a=>.ok a
 | .exc _ _=>.stuck
 | .stuck=>.stuck
noncomputable def QY(c k:Nat):Bool:=k==c||k==0||k==999
@[simp] theorem Res.bind_ok{α β:Type}(a:α)(f:α->Res β):(Res.ok a).bind f=f a:=rfl
noncomputable abbrev RV:=Res (V×AH)
noncomputable def items(h:AH)(a:Nat):Option (List V):=match h[a]? with
 |some (.lst _ xs)=>some xs
 |some (.tup xs)=>some xs
 |_=>none
noncomputable def qP(h:AH)(a:Nat):Option (List V):=match h[a]? with
 |some (.lst _ xs)=>some xs
 |_=>none
noncomputable def qW(h:AH)(a:Nat):Option (List V):=match h[a]? with
 |some (.tup xs)=>some xs
 |_=>none
noncomputable def Jg(h:AH)(a:Nat):Option (List (Int×V)):=match h[a]? with
 |some (.ob (.dct kvs))=>some kvs
 |_=>none
noncomputable def qAi(kvs:List (Int×V))(k:Int):Bool:=kvs.any λp=>decide (p.1=k)
noncomputable def qDO(kvs:List (Int×V))(k:Int)(v:V):List (Int×V):=if qAi kvs k=true then kvs.map (λp=>if p.1=k then (p.1,v) else p) else kvs++[(k,v)]
noncomputable def qA9(h:AH)(a:Nat):Option Str:=match h[a]? with
 |some (.ob (.exn c))=>some c
 |_=>none
noncomputable def qEX(c k:Str):Bool:=decide (k=c)||decide (k="HealError")||decide (k="ValueError")
noncomputable def qc(h:AH)(a:Nat):Option (List V):=match h[a]? with
 |some (.lst false xs)=>some xs
 |_=>none
noncomputable def lim:Nat:=100000
noncomputable def newL(xs:List V)(h:AH):RV:=.ok (.ref h.length,h++[.lst false xs])
noncomputable def newT(xs:List V)(h:AH):RV:=.ok (.ref h.length,h++[.tup xs])
noncomputable def flat:V->Bool
 | .non=>true | .bl _=>true | .int _=>true | .str _=>true|_=>false
noncomputable def eqF:V->V->Option Bool
 | .int i,.int j=>some (i==j)
 | .bl i,.bl j=>some (i==j)
 | .str i,.str j=>some (i==j)
 | .non,.non=>some true
 | .int i,.bl b=>some (i==(if b then 1 else 0))
 | .bl b,.int i=>some ((if b then 1 else 0)==i)
 | .non,.int _=>some false | .int _,.non=>some false
 | .non,.bl _=>some false | .bl _,.non=>some false
 | .non,.str _=>some false | .str _,.non=>some false
 | .int _,.str _=>some false | .str _,.int _=>some false
 | .bl _,.str _=>some false | .str _,.bl _=>some false
 |_,_=>none
noncomputable def Qa(f:V->V->Option Bool):List V->List V->Option (List Bool)
 | [],[]=>some []
 |x::xs,y::ys=>match f x y,Qa f xs ys with
  |some b,some bs=>some (b::bs)
  |_,_=>none
 |_,_=>none
noncomputable def eqD(h:AH):Nat->V->V->Option Bool
 | 0,x,y=>eqF x y
 |n+1,.ref a,.ref b=>match h[a]?,h[b]? with
  |some (.lst _ xs),some (.lst _ ys)=>if a=b then some true else if xs.length=ys.length then (Qa (eqD h n) xs ys).map λbs=>bs.all id else some false
  |some (.tup xs),some (.tup ys)=>if a=b then some true else if xs.length=ys.length then (Qa (eqD h n) xs ys).map λbs=>bs.all id else (Qa (eqD h n) (xs.take ys.length) (ys.take xs.length)).map λ_=>false
  |some (.lst _ _),some (.tup _)=>some false
  |some (.tup _),some (.lst _ _)=>some false
  |_,_=>none
 |_+1,.ref a,y=>if (items h a).isSome&&flat y then some false else none
 |_+1,x,.ref b=>if flat x&&(items h b).isSome then some false else none
 |_+1,x,y=>eqF x y
noncomputable abbrev ixN(n:Nat)(i:Int):Option Nat:=L2.ixN n i
noncomputable abbrev cut(xs:List V)(lo hi:Option Int):List V:=L2.cutV xs lo hi
noncomputable def two64:Int:=18446744073709551616
noncomputable def ji(i:Int):Bool:=decide (-two64<i/\i<two64)
noncomputable def mid(i:Int):Bool:=decide (i.natAbs.log2<9000)
noncomputable def A4(x y:V)(f:Int->Int->RV):RV:=match x with
 | .int i=>(match y with | .int j=>f i j|_=>.stuck)
 |_=>.stuck
theorem zE{x y:V}{f:Int->Int->RV}{r:V×AH}(e:A4 x y f=.ok r):∃i j,x=.int i/\y=.int j/\f i j=.ok r:=by
 unfold A4 at e;split at e
 ·split at e
  ·exact⟨_,_,rfl,rfl,e⟩
  ·cases e
 ·cases e
noncomputable def j2(x:V)(f:Nat->RV):RV:=match x with
 | .ref a=>f a
 |_=>.stuck
theorem jn{x:V}{f:Nat->RV}{r:V×AH}(e:j2 x f=.ok r):∃a,x=.ref a/\f a=.ok r:=by
 unfold j2 at e;split at e
 ·exact⟨_,rfl,e⟩
 ·cases e
noncomputable def z0:BOp->V->V->AH->RV
 | .add,x,y,h=>(match x with
  | .ref a=>j2 y λb=>(match qc h a,qc h b with
   |some xs,some ys=>if xs.length+ys.length<=lim then newL (xs++ys) h else .stuck
   |_,_=>(match qW h a,qW h b with
    |some xs,some ys=>if xs≠[]/\xs.length+ys.length<=lim then (if ys=[] then .ok (.ref a,h) else newT (xs++ys) h) else .stuck
    |_,_=>.stuck))
  |x=>A4 x y λi j=>.ok (.int (i+j),h))
 | .sub,x,y,h=>A4 x y λi j=>.ok (.int (i-j),h)
 | .mul,x,y,h=>(match x with
  | .ref a=>(match y with
   | .int k=>(match qc h a with
    |some xs=>if 0<=k/\xs.length*k.toNat<=lim/\k<1000000 then newL (List.replicate k.toNat xs).flatten h else .stuck
    |none=>.stuck)
   |_=>.stuck)
  |x=>A4 x y λi j=>if ji i||ji j||(mid i&&mid j) then .ok (.int (i*j),h) else .stuck)
 | .fdiv,x,y,h=>A4 x y λi j=>if 0<j/\(j<1073741824\/mid j=true) then .ok (.int (i / j),h) else if j<0/\mid j=true then .ok (.int (i.fdiv j),h) else .stuck
 | .mod,x,y,h=>A4 x y λi j=>if 0<j then .ok (.int (i % j),h) else if j<0 then .ok (.int (i.fmod j),h) else .stuck
 | .pow,x,y,h=>A4 x y λi j=>if 0<=j/\j<=1000/\i.natAbs<18446744073709551616 then .ok (.int (i ^ j.toNat),h) else .stuck
 | .band,x,y,h=>A4 x y λi j=>.ok (.int (PySem.Builtin.bitAnd i j),h)
 | .shl,x,y,h=>A4 x y λi j=>if 0<=j/\j<=1000/\i.natAbs<18446744073709551616 then .ok (.int (i*2 ^ j.toNat),h) else .stuck
noncomputable def qAk(x y:V)(f:Int->Int->Bool):Option Bool:=match x with
 | .int i=>(match y with | .int j=>some (f i j)|_=>none)
 |_=>none
theorem jl{x y:V}{f:Int->Int->Bool}{r:Bool}(e:qAk x y f=some r):∃i j,x=.int i/\y=.int j/\f i j=r:=by
 unfold qAk at e;split at e
 ·split at e
  ·exact⟨_,_,rfl,rfl,Option.some.inj e⟩
  ·cases e
 ·cases e
noncomputable def j8(y:V)(f:Nat->Option Bool):Option Bool:=match y with
 | .ref a=>f a
 |_=>none
theorem Jz{y:V}{f:Nat->Option Bool}{r:Bool}(e:j8 y f=some r):∃a,y=.ref a/\f a=some r:=by
 unfold j8 at e;split at e
 ·exact⟨_,rfl,e⟩
 ·cases e
noncomputable def isC(x y:V)(f:Bool->Bool):Option Bool:=match y with
 | .non=>some (f (decide (x=.non)))
 | .bl d=>(match x with | .bl c=>some (f (c==d))|_=>none)
 |_=>none
theorem K4{x y:V}{f:Bool->Bool}{r:Bool}(e:isC x y f=some r):(y=.non/\f (decide (x=.non))=r)\/∃c d,x=.bl c/\y=.bl d/\f (c==d)=r:=by
 unfold isC at e;split at e
 ·exact .inl ⟨rfl,Option.some.inj e⟩
 ·split at e
  ·exact .inr ⟨_,_,rfl,rfl,Option.some.inj e⟩
  ·cases e
 ·cases e
noncomputable def G4:COp->V->V->AH->Option Bool
 | .lt,x,y,_=>qAk x y λi j=>decide (i<j)
 | .le,x,y,_=>qAk x y λi j=>decide (i<=j)
 | .gt,x,y,_=>qAk x y λi j=>decide (j<i)
 | .ge,x,y,_=>qAk x y λi j=>decide (j<=i)
 | .eq,x,y,h=>eqD h 4 x y
 | .ne,x,y,h=>(eqD h 4 x y).map (!·)
 | .inn,x,y,h=>j8 y λa=>(match items h a with
  |some xs=>if flat x&&xs.all flat then some (xs.any λy=>L2.eqV y x) else none
  |none=>match Jg h a with
   |some kvs=>(match x with | .int i=>some (qAi kvs i)|_=>none)
   |none=>none)
 | .notin,x,y,h=>j8 y λa=>(match items h a with
  |some xs=>if flat x&&xs.all flat then some (!(xs.any λy=>L2.eqV y x)) else none
  |none=>match Jg h a with
   |some kvs=>(match x with | .int i=>some (!qAi kvs i)|_=>none)
   |none=>none)
 | .is,x,y,_=>isC x y id
 | .isnot,x,y,_=>isC x y (!·)
noncomputable def G5(op:COp)(x y:V)(h:AH):RV:=match G4 op x y h with
 |some b=>.ok (.bl b,h)
 |none=>.stuck
noncomputable def zx:List V->Option (List Int)
 | []=>some []
 | .int i::r=>(zx r).map (i::·)
 |_::_=>none
noncomputable def jZ:List V->Option (List Bool)
 | []=>some []
 | .bl b::r=>(jZ r).map (b::·)
 |_::_=>none
noncomputable def ins(x:Int):List Int->List Int
 | []=>[x]
 |y::r=>if x<=y then x::y::r else y::ins x r
noncomputable def one(as:List V)(f:V->RV):RV:=match as with
 | [a]=>f a
 |_=>.stuck
theorem QP{as:List V}{f:V->RV}{r:V×AH}(e:one as f=.ok r):∃a,as=[a]/\f a=.ok r:=by
 unfold one at e;split at e
 ·exact⟨_,rfl,e⟩
 ·cases e
noncomputable def two(as:List V)(f:V->V->RV):RV:=match as with
 | [a,b]=>f a b
 |_=>.stuck
theorem two_inv{as:List V}{f:V->V->RV}{r:V×AH}(e:two as f=.ok r):∃a b,as=[a,b]/\f a b=.ok r:=by
 unfold two at e;split at e
 ·exact⟨_,_,rfl,e⟩
 ·cases e
noncomputable def qAj:BF->List V->AH->RV
 | .len,as,h=>one as λx=>j2 x λa=>(match items h a with|some xs=>.ok (.int xs.length,h)|none=>.stuck)
 | .all,as,h=>one as λx=>j2 x λa=>(match qP h a with
  |some xs=>match jZ xs with|some bs=>.ok (.bl (bs.all id),h)|none=>.stuck
  |none=>.stuck)
 | .max,as,h=>two as λx y=>A4 x y λi j=>.ok (.int (if j>i then j else i),h)
 | .min,as,h=>two as λx y=>A4 x y λi j=>.ok (.int (if j<i then j else i),h)
 | .list,as,h=>one as λx=>j2 x λa=>(match items h a with|some xs=>newL xs h|none=>.stuck)
 | .int,as,h=>one as λx=>(match x with | .int i=>.ok (.int i,h) | .bl b=>.ok (.int (if b then 1 else 0),h)|_=>.stuck)
 | .bits,as,h=>one as λx=>(match x with | .int i=>.ok (.int ((PySem.Builtin.Int.intBits i:Nat):Int),h)|_=>.stuck)
noncomputable def zt:Mt->Nat->List V->AH->RV
 | .pop,p,[],h=>match qc h p with
  |some xs=>match xs[xs.length-1]? with|some y=>.ok (y,h.set p (.lst false xs.dropLast))|none=>.stuck
  |none=>.stuck
 | .popAt,p,[.int i],h=>match qc h p with
  |some xs=>if xs.length<=lim then (match ixN xs.length i with|some k=>(match xs[k]? with|some y=>.ok (y,h.set p (.lst false (xs.eraseIdx k)))|none=>.stuck)|none=>.stuck) else .stuck
  |none=>.stuck
 | .rev,p,[],h=>match qc h p with|some xs=>.ok (.non,h.set p (.lst false xs.reverse))|none=>.stuck
 | .clr,p,[],h=>match qc h p with|some _=>.ok (.non,h.set p (.lst false []))|none=>.stuck
 | .ext,p,[.ref q],h=>match qc h p with
  |some xs=>(match qc h q with|some ys=>if p≠q/\xs.length+ys.length<=lim then .ok (.non,h.set p (.lst false (xs++ys))) else .stuck|none=>.stuck)
  |none=>.stuck
 | .ins,p,[.int i,y],h=>match qc h p with
  |some xs=>if 0<=i/\i<=xs.length/\xs.length<lim then .ok (.non,h.set p (.lst false (xs.take i.toNat++y::xs.drop i.toNat))) else .stuck
  |none=>.stuck
 |_,_,_,_=>.stuck
noncomputable def zf(h:AH):V->Option String
 | .non=>some "NoneType"
 | .bl _=>some "bool"
 | .int _=>some "int"
 | .str _=>some "str"
 | .ref a=>match h[a]? with|some (.lst _ _)=>some "list" | some (.tup _)=>some "tuple" | some (.ob (.dct _))=>some "dict" | _=>none
 |_=>none
noncomputable def ze(t c:String):Bool:=t==c||(t=="bool"&&c=="int")
inductive Src|list(a:Nat)|tupl(a:Nat)|rng(lo:Int)(n:Nat)|zip(a b:Nat)|enum(a:Nat)
noncomputable def P8(h:AH):Src->Option Nat
 | .list a=>(qP h a).map List.length
 | .tupl a=>(qW h a).map List.length
 | .rng _ n=>some n
 | .zip a b=>match qP h a,qP h b with|some xs,some ys=>some (min xs.length ys.length)|_,_=>none
 | .enum a=>(qP h a).map List.length
noncomputable def qj(h:AH)(i:Nat):Src->Option (V×AH)
 | .list a=>match qP h a with|some xs=>xs[i]?.map λx=>(x,h)|none=>none
 | .tupl a=>match qW h a with|some xs=>xs[i]?.map λx=>(x,h)|none=>none
 | .rng lo n=>if i<n then some (.int (lo+(i:Int)),h) else none
 | .zip a b=>match qP h a,qP h b with
  |some xs,some ys=>match xs[i]?,ys[i]? with|some x,some y=>some (.ref h.length,h++[.tup [x,y]])|_,_=>none
  |_,_=>none
 | .enum a=>match qP h a with|some xs=>xs[i]?.map λx=>(.ref h.length,h++[.tup [.int (i:Int),x]])|none=>none
noncomputable def zy(h:AH)(i:Nat):Src->Bool
 | .list a=>match qP h a with|some xs=>decide (xs.length<=i)|none=>false
 | .tupl a=>match qW h a with|some xs=>decide (xs.length<=i)|none=>false
 | .rng _ n=>decide (n<=i)
 | .zip a b=>match qP h a,qP h b with|some xs,some ys=>decide (xs.length<=i\/ys.length<=i)|_,_=>false
 | .enum a=>match qP h a with|some xs=>decide (xs.length<=i)|none=>false
noncomputable def Qc:List Nat->List V->St->Option St
 | [],[],σ=>some σ
 |i::is,x::xs,σ=>Qc is xs (σ.set i (some x))
 |_,_,_=>none
noncomputable def store:Tg->V->St->AH->Option St
 | .name i,v,σ,_=>some (σ.set i (some v))
 | .tup is,.ref a,σ,h=>match qW h a with|some xs=>Qc is xs σ | none=>none
 | .tup _,_,_,_=>none
noncomputable def jw(s:Src)(g:Tg)(c:St->AH->Res (Bool×AH))(e:St->AH->RV)(D:Nat):Nat->Nat->List V->St->AH->RV
 | 0,i,_,_,h=>if zy h i s then .ok (.ref D,h) else .stuck
 |n+1,i,ys,σ,h=>match qj h i s with
  |some (x,h1)=>match store g x σ h1 with
   |some σ1=>(c σ1 h1).bind λ(b,h2)=>
    if b then (e σ1 h2).bind λ(y,h3)=>if h3[D]?=some (.lst false ys)/\ys.length<lim then jw s g c e D n (i+1) (ys++[y]) σ1 (h3.set D (.lst false (ys++[y]))) else .stuck
    else if h2[D]?=some (.lst false ys) then jw s g c e D n (i+1) ys σ1 h2 else .stuck
   |none=>.stuck
  |none=>.stuck
noncomputable def asB(r:RV):Res (Bool×AH):=r.bind λ(v,h)=>match v with | .bl b=>.ok (b,h)|_=>.stuck
section
variable (F:Nat->List V->AH->RV)
mutual
noncomputable def ev:E->St->AH->RV
 | .var i=>λσ h=>match σ[i]? with|some (some v)=>.ok (v,h)|_=>.stuck
 | .cst v=>λ_ h=>.ok (v,h)
 | .glob g=>λ_ h=>.ok (.ref g,h)
 | .bin op a b=>λσ h=>(ev a σ h).bind λ(x,h1)=>(ev b σ h1).bind λ(y,h2)=>z0 op x y h2
 | .neg a=>λσ h=>(ev a σ h).bind λ(x,h1)=>match x with | .int i=>.ok (.int (-i),h1)|_=>.stuck
 | .cmp op a b=>λσ h=>(ev a σ h).bind λ(x,h1)=>(ev b σ h1).bind λ(y,h2)=>G5 op x y h2
 | .cmp2 o1 o2 a b c=>λσ h=>(ev a σ h).bind λ(x,h1)=>(ev b σ h1).bind λ(y,h2)=>match G4 o1 x y h2 with
  |some true=>(ev c σ h2).bind λ(z,h3)=>G5 o2 y z h3
  |some false=>.ok (.bl false,h2)
  |none=>.stuck
 | .and a b=>λσ h=>(asB (ev a σ h)).bind λ(x,h1)=>if x then ev b σ h1 else .ok (.bl false,h1)
 | .or a b=>λσ h=>(asB (ev a σ h)).bind λ(x,h1)=>if x then .ok (.bl true,h1) else ev b σ h1
 | .not a=>λσ h=>(asB (ev a σ h)).bind λ(x,h1)=>.ok (.bl (!x),h1)
 | .ite c a b=>λσ h=>(asB (ev c σ h)).bind λ(x,h1)=>if x then ev a σ h1 else ev b σ h1
 | .call f as=>λσ h=>(evs as σ h).bind λ(xs,h1)=>(F f xs h1).nx
 | .blt f as=>λσ h=>(evs as σ h).bind λ(xs,h1)=>qAj f xs h1
 | .isi a ts=>λσ h=>(ev a σ h).bind λ(x,h1)=>match zf h1 x with|some t=>.ok (.bl (ts.any (ze t)),h1)|none=>.stuck
 | .idx a b=>λσ h=>(ev a σ h).bind λ(x,h1)=>(ev b σ h1).bind λ(y,h2)=>match x,y with
  | .ref p,.int i=>match items h2 p with
   |some xs=>match (ixN xs.length i).bind λj=>xs[j]? with|some v=>.ok (v,h2)|none=>.stuck
   |none=>.stuck
  |_,_=>.stuck
 | .sl a lo hi=>λσ h=>(ev a σ h).bind λ(x,h1)=>(evs lo σ h1).bind λ(l,h2)=>(evs hi σ h2).bind λ(u,h3)=>
  match x,zx l,zx u with
  | .ref p,some l,some u=>match qP h3 p with
   |some xs=>newL (cut xs l.head? u.head?) h3
   |none=>match qW h3 p with
    |some xs=>if HT.sIx xs.length 0 l.head?=0/\HT.sIx xs.length xs.length u.head?=xs.length then .stuck else newT (cut xs l.head? u.head?) h3
    |none=>.stuck
  |_,_,_=>.stuck
 | .lst as=>λσ h=>(evs as σ h).bind λ(xs,h1)=>if xs.length<=lim then newL xs h1 else .stuck
 | .tup as=>λσ h=>(evs as σ h).bind λ(xs,h1)=>if xs.length<=lim then newT xs h1 else .stuck
 | .comp it src g c e=>λσ h=>(evi it σ h).bind λ(s,h1)=>match P8 (h1++[.lst false []]) s with
  |some n=>jw s g (evc c) (ev e) h1.length n 0 [] (L2.inner src σ) (h1++[.lst false []])
  |none=>.stuck
 | .app a b=>λσ h=>(ev a σ h).bind λ(x,h1)=>match x with
  | .ref p=>(match qP h1 p with
   |some _=>(ev b σ h1).bind λ(y,h2)=>match qc h2 p with
    |some xs=>if xs.length<lim then .ok (.non,h2.set p (.lst false (xs++[y]))) else .stuck
    |none=>.stuck
   |none=>.stuck)
  |_=>.stuck
 | .dnew=>λ_ h=>.ok (.ref h.length,h++[.ob (.dct [])])
 | .meth m a as=>λσ h=>(ev a σ h).bind λ(x,h1)=>match x with
  | .ref p=>(match qP h1 p with
   |some _=>(evs as σ h1).bind λ(ys,h2)=>zt m p ys h2
   |none=>.stuck)
  |_=>.stuck
noncomputable def evs:Es->St->AH->Res (List V×AH)
 | .nil=>λ_ h=>.ok ([],h)
 | .cons a as=>λσ h=>(ev a σ h).bind λ(x,h1)=>(evs as σ h1).bind λ(xs,h2)=>.ok (x::xs,h2)
noncomputable def evc:Es->St->AH->Res (Bool×AH)
 | .nil=>λ_ h=>.ok (true,h)
 | .cons a _=>λσ h=>asB (ev a σ h)
noncomputable def evi:Itr->St->AH->Res (Src×AH)
 | .list a=>λσ h=>(ev a σ h).bind λ(x,h1)=>match x with | .ref p=>(match h1[p]? with|some (.lst _ _)=>.ok (.list p,h1)|some (.tup _)=>.ok (.tupl p,h1)|_=>.stuck)|_=>.stuck
 | .rng1 a=>λσ h=>(ev a σ h).bind λ(x,h1)=>match x with | .int j=>if -1000000<=j/\j<=1000000 then .ok (.rng 0 j.toNat,h1) else .stuck|_=>.stuck
 | .zip a b=>λσ h=>(ev a σ h).bind λ(x,h1)=>(ev b σ h1).bind λ(y,h2)=>match x,y with
  | .ref p,.ref q=>match qP h2 p,qP h2 q with|some _,some _=>.ok (.zip p q,h2)|_,_=>.stuck
  |_,_=>.stuck
 | .enum a=>λσ h=>(ev a σ h).bind λ(x,h1)=>match x with | .ref p=>(match qP h1 p with|some _=>.ok (.enum p,h1)|none=>.stuck)|_=>.stuck
end
inductive Out|nx(σ:St)|rt(v:V)|bk(σ:St)|ct(σ:St)
noncomputable abbrev RS:=Res (Out×AH)
noncomputable def JD(s:Src)(g:Tg)(b:St->AH->RS):Nat->Nat->St->AH->RS
 | 0,i,σ,h=>if zy h i s then .ok (.nx σ,h) else .stuck
 |n+1,i,σ,h=>match qj h i s with
  |some (x,h1)=>match store g x σ h1 with
   |some σ1=>(b σ1 h1).bind λ(o,h2)=>match o with
    | .nx σ2=>JD s g b n (i+1) σ2 h2
    | .ct σ2=>JD s g b n (i+1) σ2 h2
    | .bk σ2=>.ok (.nx σ2,h2)
    | .rt v=>.ok (.rt v,h2)
   |none=>.stuck
  |none=>.stuck
mutual
noncomputable def ex:S->St->AH->RS
 | .asg g e=>λσ h=>(ev F e σ h).bind λ(x,h1)=>match store g x σ h1 with|some σ1=>.ok (.nx σ1,h1)|none=>.stuck
 | .put o i v=>λσ h=>(ev F v σ h).bind λ(x,h1)=>(ev F o σ h1).bind λ(p,h2)=>(ev F i σ h2).bind λ(k,h3)=>match p,k with
  | .ref a,.int k=>match qc h3 a with
   |some xs=>match ixN xs.length k with|some j=>.ok (.nx σ,h3.set a (.lst false (xs.set j x)))|none=>.stuck
   |none=>match Jg h3 a with
    |some kvs=>if flat x=true/\kvs.length<lim then .ok (.nx σ,h3.set a (.ob (.dct (qDO kvs k x)))) else .stuck
    |none=>.stuck
  |_,_=>.stuck
 | .expr e=>λσ h=>(ev F e σ h).bind λ(_,h1)=>.ok (.nx σ,h1)
 | .ret e=>λσ h=>(ev F e σ h).bind λ(x,h1)=>.ok (.rt x,h1)
 | .ifs c t u=>λσ h=>(asB (ev F c σ h)).bind λ(x,h1)=>if x then exs t σ h1 else exs u σ h1
 | .for_ g it b=>λσ h=>(evi F it σ h).bind λ(s,h1)=>match P8 h1 s with
  |some n=>JD s g (exs b) n 0 σ h1
  |none=>.stuck
 | .stop=>λ_ _=>.stuck
 | .xexpr f as=>λσ h=>(evs F as σ h).bind λ(xs,h1)=>(F f xs h1).bind λ(_,h2)=>.ok (.nx σ,h2)
 | .raise c=>λ_ h=>.exc c h
 | .tryK b e i m ks=>λσ h=>match ex b σ h with
  | .exc c h1=>if c<m then .ok (.nx ((σ.set i (some (.ref h1.length))).set e none),h1++[.lst false (ks.map λk=>.bl (QY c k))]) else .stuck
  |r=>r
 | .xasg i f as=>λσ h=>(evs F as σ h).bind λ(xs,h1)=>(F f xs h1).bind λ(v,h2)=>.ok (.nx (σ.set i (some v)),h2)
 | .xret f as=>λσ h=>(evs F as σ h).bind λ(xs,h1)=>(F f xs h1).bind λ(v,h2)=>.ok (.rt v,h2)
 | .xrn o f as=>λσ h=>(evs F as σ h).bind λ(xs,h1)=>(F f xs h1).bind λ(v,h2)=>(G5 o v .non h2).bind λ(b,h3)=>.ok (.rt b,h3)
noncomputable def exs:Ss->St->AH->RS
 | .nil=>λσ h=>.ok (.nx σ,h)
 | .cons s r=>λσ h=>(ex s σ h).bind λ(o,h1)=>match o with
  | .nx σ1=>exs r σ1 h1
  |o=>.ok (o,h1)
end
end
structure Fn where
 npar:Nat
 nslot:Nat
 body:Ss
noncomputable def Fk(tb:List Fn):Nat->Nat->List V->AH->RV
 | 0,_,_,_=>.stuck
 |k+1,f,vs,h=>match tb[f]? with
  |some d=>if vs.length=d.npar/\d.npar<=d.nslot then (exs (Fk tb k) d.body (vs.map some++List.replicate (d.nslot-d.npar) none) h).bind λ(o,h1)=>match o with
    | .nx _=>.ok (.non,h1)
    | .rt v=>.ok (v,h1)
    |_=>.stuck
   else .stuck
  |none=>.stuck
open PySem PySem.Spec PyProof.Rows
open L2 (Hp HO Cx PE PT PA PS PSs TE TT TA TS VK upd qF qD SqL SqT QV)
def rv(φ:List Addr):V->V->Prop
 | .ref i,.ref a=>φ[i]?=some a
 | .non,.non=>True
 | .bl b,.bl c=>b=c
 | .int i,.int j=>i=j
 | .str x,.str y=>x=y
 |_,_=>False
abbrev rvs(φ:List Addr):List V->List V->Prop:=Paired (rv φ)
def ropt(φ:List Addr):Option V->Option V->Prop
 |some v,oc=>∃w,oc=some w/\rv φ v w
 |none,_=>True
abbrev rst(φ:List Addr):St->St->Prop:=Paired (ropt φ)
def Ext(φ φ':List Addr):Prop:=∃r,φ'=φ++r
theorem Ext.refl(φ:List Addr):Ext φ φ:=⟨[],by simp⟩
theorem Ext.trans{a b c:List Addr}(h:Ext a b)(g:Ext b c):Ext a c:=by
 obtain⟨r,rfl⟩:=h;obtain⟨q,rfl⟩:=g;exact⟨r++q,by simp⟩
theorem Ext.get{φ φ':List Addr}(x:Ext φ φ'){i:Nat}{a:Addr}(h:φ[i]?=some a):φ'[i]?=some a:=by
 obtain⟨r,rfl⟩:=x;rw[List.getElem?_append_left (List.getElem?_eq_some_iff.mp h).1];exact h
theorem rv.mono{φ φ':List Addr}(x:Ext φ φ'):∀{v w:V},rv φ v w->rv φ' v w
 | .ref i,.ref a,h=>x.get h
 | .non,.non,h=>h
 | .bl _,.bl _,h=>h
 | .int _,.int _,h=>h
 | .str _,.str _,h=>h
 | .byt _,_,h=>by cases h
 | .flt _,_,h=>by cases h
 | .ty _,_,h=>by cases h
theorem rvs.mono{φ φ':List Addr}(x:Ext φ φ'){vs ws:List V}(h:rvs φ vs ws):rvs φ' vs ws:=L2.Paired.mapP h λ_ _ r=>rv.mono x r
theorem ropt.mono{φ φ':List Addr}(x:Ext φ φ'):∀{v w:Option V},ropt φ v w->ropt φ' v w
 |some v,oc,h=>by obtain⟨w,e,r⟩:=h;exact⟨w,e,rv.mono x r⟩
 |none,_,_=>trivial
theorem rst.mono{φ φ':List Addr}(x:Ext φ φ'){σ τ:St}(h:rst φ σ τ):rst φ' σ τ:=L2.Paired.mapP h λ_ _ r=>ropt.mono x r
theorem qE{α β:Type}{R:α->β->Prop}:∀{xs:List α}{ys:List β}{i:Nat}{x:α},Paired R xs ys->xs[i]?=some x->∃y,ys[i]?=some y/\R x y
 |_,_,_,_,.nil,e=>by simp at e
 |_,_,0,_,.cons r _,e=>by simp at e;subst e;exact⟨_,rfl,r⟩
 |_,_,i+1,x,.cons _ t,e=>by
  obtain⟨u,h1,h2⟩:=qE (i:=i) (x:=x) t (by simpa using e);exact⟨u,by simpa using h1,h2⟩
theorem zA{α β:Type}{R:α->β->Prop}{x:α}{u:β}(r:R x u):∀{xs:List α}{us:List β}(i:Nat),Paired R xs us->Paired R (xs.set i x) (us.set i u)
 |_,_,_,.nil=>.nil
 |_,_,0,.cons _ t=>.cons r t
 |_,_,i+1,.cons q t=>.cons q (zA r i t)
theorem qI{α β:Type}{R:α->β->Prop}:∀{xs ys:List α}{us ws:List β},Paired R xs us->Paired R ys ws->Paired R (xs++ys) (us++ws)
 |_,_,_,_,.nil,s=>s
 |_,_,_,_,.cons r t,s=>.cons r (qI t s)
theorem qy{α β:Type}{R:α->β->Prop}:∀{xs:List α}{us:List β}(n:Nat),Paired R xs us->Paired R (xs.take n) (us.take n)
 |_,_,0,_=>.nil
 |_,_,_+1,.nil=>.nil
 |_,_,n+1,.cons r t=>.cons r (qy n t)
theorem jB{α β:Type}{R:α->β->Prop}:∀{xs:List α}{us:List β}(n:Nat),Paired R xs us->Paired R (xs.drop n) (us.drop n)
 |_,_,0,r=>r
 |_,_,_+1,.nil=>.nil
 |_,_,n+1,.cons _ t=>jB n t
theorem Qo{α β:Type}{R:α->β->Prop}{xs:List α}{us:List β}(h:Paired R xs us):∀k:Nat,Paired R (List.replicate k xs).flatten (List.replicate k us).flatten
 | 0=>.nil
 |k+1=>by
  rw[List.replicate_succ,List.replicate_succ,List.flatten_cons,List.flatten_cons];exact qI h (Qo h k)
noncomputable def kk(p:Int×V):L2.Key×V:=(.inl p.1,p.2)
noncomputable def O.mu:O->Bool
 | .lst false _=>true | .ob (.dct _)=>true|_=>false
def exP(a C:Addr):Heap->Prop:=λh=>∃o,h.get? a=some o/\o.cls=.ref C
def ro(K:PySem.W.Frag)(φ:List Addr)(H:Hp)(a:Addr):O->Prop
 | .lst false xs=>∃ys,H a=some (.lst ys)/\rvs φ xs ys
 | .lst true xs=>∃ys,((∃o,H a=some (.frz o (.lst ys)))\/SqL K (λ_=>none) a ys)/\rvs φ xs ys
 | .tup xs=>∃ys,SqT K H a ys/\rvs φ xs ys
 | .ob (.dct kvs)=>H a=some (.dK (kvs.map kk))
 | .ob (.exn x)=>∃C,PySem.W.nsIn K mainGlobals x=some (some (.ref C))/\H a=some (.ext (exP a C))
structure Rl(K:PySem.W.Frag)(G:List Addr)(φ:List Addr)(h:AH)(H:Hp):Prop where
 len:φ.length=h.length
 glob:Ext G φ
 obj:∀(i:Nat) o a,h[i]?=some o->φ[i]?=some a->ro K φ H a o
 inj:∀(i j:Nat) x y a,x.mu=true->y.mu=true->h[i]?=some x->h[j]?=some y->φ[i]?=some a->φ[j]?=some a->i=j
section
variable{K:PySem.W.Frag}{G φ φ':List Addr}{h:AH}{H H':Hp}{a b p:Addr}
theorem U2{xs:List V}(s:QV H H')(q:SqT K H a xs):SqT K H' a xs:=by
 rcases q with(h|⟨o,h⟩)|h
 ·exact .inl (.inl (s _ _ h))
 ·exact .inl (.inr ⟨o,s _ _ h⟩)
 ·exact .inr h
theorem T2{xs:List V}(q:SqL K (λ_=>none) a xs):SqL K H a xs:=by
 rcases q with(h|⟨o,h⟩)|h
 ·cases h
 ·cases h
 ·exact .inr h
theorem A3{o:HO}(hp:H p=none):QV H (upd H p o):=λb u e=>by rw[qD (L2.ne_of_none e hp)];exact e
theorem ro.keep{o:O}(x:Ext φ φ')(s:QV H H')(r:ro K φ H a o):ro K φ' H' a o:=by
 match o,r with
 | .lst false xs,⟨ys,e,r⟩=>exact⟨ys,s _ _ e,rvs.mono x r⟩
 | .lst true xs,⟨ys,.inl ⟨o,e⟩,r⟩=>exact⟨ys,.inl ⟨o,s _ _ e⟩,rvs.mono x r⟩
 | .lst true xs,⟨ys,.inr e,r⟩=>exact⟨ys,.inr e,rvs.mono x r⟩
 | .tup xs,⟨ys,e,r⟩=>exact⟨ys,U2 s e,rvs.mono x r⟩
 | .ob (.dct _),e=>exact s _ _ e
 | .ob (.exn _),⟨C,e1,e2⟩=>exact⟨C,e1,s _ _ e2⟩
def Wr(w:HO):Prop:=(∃zs,w=.lst zs)\/∃ks,w=.dK ks
theorem ro.wr{o:O}(m:o.mu=true)(r:ro K φ H a o):∃w,H a=some w/\Wr w:=by
 match o,m,r with
 | .lst false xs,_,⟨ys,e,r⟩=>exact⟨_,e,.inl ⟨_,rfl⟩⟩
 | .ob (.dct _),_,e=>exact⟨_,e,.inr ⟨_,rfl⟩⟩
theorem Wr.ne{w v:HO}(h:Wr w)(e:H a=some v)(hb:H b=some w)(h1:∀zs,v≠.lst zs)(h2:∀ks,v≠.dK ks):a≠b:=λz=>by
 subst z;rw[e]at hb;cases hb;rcases h with⟨zs,rfl⟩|⟨ks,rfl⟩
 ·exact h1 _ rfl
 ·exact h2 _ rfl
theorem ro.other{o:O}{w w':HO}(hw:Wr w)(hb:H b=some w)(hne:o.mu=true->a≠b)(r:ro K φ H a o):ro K φ (upd H b w') a o:=by
 match o,r with
 | .lst false xs,⟨ys,e,r⟩=>exact⟨ys,by rw[qD (hne rfl)];exact e,r⟩
 | .lst true xs,⟨ys,.inl ⟨o,e⟩,r⟩=>exact⟨ys,.inl ⟨o,by rw[qD (hw.ne e hb (λ_ z=>by cases z) (λ_ z=>by cases z))];exact e⟩,r⟩
 | .lst true xs,⟨ys,.inr e,r⟩=>exact⟨ys,.inr e,r⟩
 | .tup xs,⟨ys,e,r⟩=>
  refine⟨ys,?_,r⟩;rcases e with(h|⟨o,h⟩)|h
  ·exact .inl (.inl (by rw[qD (hw.ne h hb (λ_ z=>by cases z) (λ_ z=>by cases z))];exact h))
  ·exact .inl (.inr ⟨o,by rw[qD (hw.ne h hb (λ_ z=>by cases z) (λ_ z=>by cases z))];exact h⟩)
  ·exact .inr h
 | .ob (.dct _),e=>exact(by show upd H b _ a=_;rw[qD (hne rfl)];exact e)
 | .ob (.exn _),⟨C,e1,e2⟩=>exact⟨C,e1,by rw[qD (hw.ne e2 hb (λ_ z=>by cases z) (λ_ z=>by cases z))];exact e2⟩
theorem Rl.at(R:Rl K G φ h H){i:Nat}{o:O}(e:h[i]?=some o):∃a,φ[i]?=some a/\ro K φ H a o:=by
 have hi:i<φ.length:=by rw[R.len];exact(List.getElem?_eq_some_iff.mp e).1
 exact⟨φ[i],wA hi,R.obj i o _ e (wA hi)⟩
theorem Rl.new(R:Rl K G φ h H)(hp:H p=none){o:O}{ob:HO}(n:ro K (φ++[p]) (upd H p ob) p o):Rl K G (φ++[p]) (h++[o]) (upd H p ob):=by
 have x:Ext φ (φ++[p]):=⟨[p],rfl⟩
 refine⟨by simp[R.len],R.glob.trans x,λi u a e1 e2=>?_,λi j xs ys a m1 m2 e1 e2 e3 e4=>?_⟩
 ·by_cases hi:i<h.length
  ·rw[List.getElem?_append_left hi]at e1;rw[List.getElem?_append_left (by rw[R.len];exact hi)]at e2;exact(R.obj i u a e1 e2).keep x (A3 hp)
  ·have hi':i=h.length:=by
    have:=(List.getElem?_eq_some_iff.mp e1).1;simp at this;omega
   subst hi';simp at e1;rw[<-R.len]at e2;simp at e2;subst e1 e2;exact n
 ·have lt:∀{k:Nat}{z:O},(h++[o])[k]?=some z->(h[k]?=some z/\k<h.length)\/k=h.length:=λ{k zs} e=>by
   by_cases hk:k<h.length
   ·rw[List.getElem?_append_left hk]at e;exact .inl ⟨e,hk⟩
   ·have:=(List.getElem?_eq_some_iff.mp e).1;simp at this;exact .inr (by omega)
  have old:∀{k:Nat}{b:Addr},k<h.length->(φ++[p])[k]?=some b->φ[k]?=some b:=λ{k b} hk e=>by
   rwa [List.getElem?_append_left (by rw[R.len];exact hk)]at e
  have newA:∀{b:Addr},(φ++[p])[h.length]?=some b->b=p:=λ{b} e=>by
   rw[<-R.len]at e;simp at e;exact e.symm
  rcases lt e1 with⟨e1,h1⟩|rfl<;>rcases lt e2 with⟨e2,h2⟩|rfl
  ·exact R.inj i j xs ys a m1 m2 e1 e2 (old h1 e3) (old h2 e4)
  ·have ea:=newA e4;subst ea;obtain⟨w,hz,_⟩:=(R.obj i _ a e1 (old h1 e3)).wr m1;rw[hp]at hz;cases hz
  ·have ea:=newA e3;subst ea;obtain⟨w,hz,_⟩:=(R.obj j _ a e2 (old h2 e4)).wr m2;rw[hp]at hz;cases hz
  ·rfl
theorem Rl.more(R:Rl K G φ h H)(hp:H p=none){ob:HO}:Rl K G φ h (upd H p ob):=
 ⟨R.len,R.glob,λi u a e1 e2=>(R.obj i u a e1 e2).keep (Ext.refl _) (A3 hp),R.inj⟩
theorem Rl.exn(R:Rl K G φ h H){i:Nat}{x:Str}(e:qA9 h i=some x):∃a C,φ[i]?=some a/\PySem.W.nsIn K mainGlobals x=some (some (.ref C))/\H a=some (.ext (exP a C)):=by
 unfold qA9 at e;split at e
 ·rename_i c q;cases e;obtain⟨a,ea,C,r1,r2⟩:=R.at q;exact⟨a,C,ea,r1,r2⟩
 ·cases e
theorem Rl.newL(R:Rl K G φ h H)(hp:H p=none){xs ys:List V}(r:rvs φ xs ys):Rl K G (φ++[p]) (h++[.lst false xs]) (upd H p (.lst ys)):=
 R.new hp ⟨ys,qF,rvs.mono ⟨[p],rfl⟩ r⟩
theorem Rl.newT(R:Rl K G φ h H)(hp:H p=none){xs ys:List V}(r:rvs φ xs ys):Rl K G (φ++[p]) (h++[.tup xs]) (upd H p (.tup ys)):=
 R.new hp ⟨ys,.inl (.inl qF),rvs.mono ⟨[p],rfl⟩ r⟩
theorem Rl.lastRef(R:Rl K G φ h H):(φ++[p])[h.length]?=some p:=by rw[<-R.len];simp
theorem Rl.write(R:Rl K G φ h H){i:Nat}{x y:O}{w':HO}(mx:x.mu=true)(my:y.mu=true)(e:h[i]?=some x)(ea:φ[i]?=some a)(n:ro K φ (upd H a w') a y):Rl K G φ (h.set i y) (upd H a w'):=by
 have hi:=(List.getElem?_eq_some_iff.mp e).1;obtain⟨w,hw,ww⟩:=(R.obj i _ a e ea).wr mx;have lk:∀{k:Nat}{z:O},z.mu=true->(h.set i y)[k]?=some z->∃z',z'.mu=true/\h[k]?=some z':=λ{k zs} m q=>by
  by_cases hk:k=i
  ·subst hk;exact⟨x,mx,e⟩
  ·rw[wI (Ne.symm hk)]at q;exact⟨zs,m,q⟩
 refine⟨by simp[R.len],R.glob,λk u b e1 e2=>?_,λk l us vs b m1 m2 e1 e2 e3 e4=>?_⟩
 ·by_cases hk:k=i
  ·subst hk;rw[wN hi]at e1;rw[ea]at e2;cases e1;cases e2;exact n
  ·rw[wI (Ne.symm hk)]at e1;refine(R.obj k u b e1 e2).other ww hw λmu hb=>?_;subst hb;exact hk (R.inj k i u x b mu mx e1 e e2 ea)
 ·obtain⟨z1,n1,q1⟩:=lk m1 e1;obtain⟨z2,n2,q2⟩:=lk m2 e2;exact R.inj k l z1 z2 b n1 n2 q1 q2 e3 e4
theorem Rl.set(R:Rl K G φ h H){i:Nat}{xs ys zs:List V}(e:h[i]?=some (.lst false xs))(ea:φ[i]?=some a)(r:rvs φ ys zs):Rl K G φ (h.set i (.lst false ys)) (upd H a (.lst zs)):=
 R.write rfl rfl e ea ⟨zs,qF,r⟩
theorem Rl.dct(R:Rl K G φ h H){i:Nat}{kvs:List (Int×V)}(e:Jg h i=some kvs):∃a,φ[i]?=some a/\h[i]?=some (.ob (.dct kvs))/\H a=some (.dK (kvs.map kk)):=by
 unfold Jg at e;split at e
 ·rename_i zs q;cases e;obtain⟨a,ea,r⟩:=R.at q;exact⟨a,ea,q,r⟩
 ·cases e
theorem Rl.lst(R:Rl K G φ h H){i:Nat}{xs:List V}(e:qP h i=some xs):∃a ys,φ[i]?=some a/\SqL K H a ys/\rvs φ xs ys:=by
 unfold qP at e;split at e
 ·rename_i fz zs q;cases e;obtain⟨a,ea,r⟩:=R.at q;cases fz with
  |false=>obtain⟨ys,e,r⟩:=r;exact⟨a,ys,ea,.inl (.inl e),r⟩
  |true=>
   obtain⟨ys,e,r⟩:=r;rcases e with⟨o,e⟩|e
   ·exact⟨a,ys,ea,.inl (.inr ⟨o,e⟩),r⟩
   ·exact⟨a,ys,ea,T2 e,r⟩
 ·cases e
theorem Rl.tup(R:Rl K G φ h H){i:Nat}{xs:List V}(e:qW h i=some xs):∃a ys,φ[i]?=some a/\SqT K H a ys/\rvs φ xs ys:=by
 unfold qW at e;split at e
 ·rename_i zs q;cases e;obtain⟨a,ea,ys,e,r⟩:=R.at q;exact⟨a,ys,ea,e,r⟩
 ·cases e
theorem Rl.mut(R:Rl K G φ h H){i:Nat}{xs:List V}(e:qc h i=some xs):h[i]?=some (.lst false xs)/\∃a ys,φ[i]?=some a/\H a=some (.lst ys)/\rvs φ xs ys:=by
 unfold qc at e;split at e
 ·rename_i zs q;cases e;obtain⟨a,ea,ys,e,r⟩:=R.at q;exact⟨q,a,ys,ea,e,r⟩
 ·cases e
theorem Rl.its(R:Rl K G φ h H){i:Nat}{xs:List V}(e:items h i=some xs):∃a ys,φ[i]?=some a/\(SqL K H a ys\/SqT K H a ys)/\rvs φ xs ys:=by
 unfold items at e;split at e
 ·rename_i fz zs q;cases e;obtain⟨a,ys,h1,h2,h3⟩:=R.lst (i:=i) (xs:=xs) (by unfold qP;rw[q]);exact⟨a,ys,h1,.inl h2,h3⟩
 ·rename_i zs q;cases e;obtain⟨a,ys,h1,h2,h3⟩:=R.tup (i:=i) (xs:=xs) (by unfold qW;rw[q]);exact⟨a,ys,h1,.inr h2,h3⟩
 ·cases e
end
open L2 (PG Inv RelV Vals EP TP AP SP OpR qr R2)
theorem Res.bind_inv{α β:Type}{r:Res α}{f:α->Res β}{x:β}(h:r.bind f=.ok x):∃a,r=.ok a/\f a=.ok x:=by
 cases r with
 |ok a=>exact⟨a,rfl,h⟩
 |exc c h'=>cases h
 |stuck=>cases h
theorem qB{φ:List Addr}{i:Int}{w:V}(h:rv φ (.int i) w):w=.int i:=by
 cases w with
 |int j=>exact congrArg V.int (show i=j from h).symm
 |_=>exact False.elim h
theorem zH{φ:List Addr}{i:Bool}{w:V}(h:rv φ (.bl i) w):w=.bl i:=by
 cases w with
 |bl j=>exact congrArg V.bl (show i=j from h).symm
 |_=>exact False.elim h
theorem zP{φ:List Addr}{i:Str}{w:V}(h:rv φ (.str i) w):w=.str i:=by
 cases w with
 |str j=>exact congrArg V.str (show i=j from h).symm
 |_=>exact False.elim h
theorem zF{φ:List Addr}{w:V}(h:rv φ .non w):w=.non:=by
 cases w with
 |non=>rfl
 |_=>exact False.elim h
theorem qK{φ:List Addr}{i:Nat}{w:V}(h:rv φ (.ref i) w):∃a,w=.ref a/\φ[i]?=some a:=by
 cases w with
 |ref j=>exact⟨j,rfl,h⟩
 |_=>exact False.elim h
section
variable (K:PySem.W.Frag)(G:List Addr)(F:Nat->List V->AH->RV)
noncomputable def tE(e:E):TE:=λσc H Q=>∃φ h σ v h',Rl K G φ h H/\rst φ σ σc/\ev F e σ h=.ok (v,h')/\∀φ' H' w,Ext φ φ'->Rl K G φ' h' H'->rv φ' v w->Q w H'
noncomputable def tB(r:St->AH->Res (Bool×AH)):TT:=λσc H Q=>∃φ h σ b h',Rl K G φ h H/\rst φ σ σc/\r σ h=.ok (b,h')/\∀φ' H',Ext φ φ'->Rl K G φ' h' H'->Q b H'
noncomputable abbrev tT(e:E):TT:=tB K G (λσ h=>asB (ev F e σ h))
noncomputable def tL(as:Es):TA:=λσc H Q=>∃φ h σ vs h',Rl K G φ h H/\rst φ σ σc/\evs F as σ h=.ok (vs,h')/\∀φ' H' ws,Ext φ φ'->Rl K G φ' h' H'->rvs φ' vs ws->Q ws H'
end
section
variable{X:Cx}{G:List Addr}{F:Nat->List V->AH->RV}
theorem qh{e:Expr}{t t':TE}(h:PE X e t)(w:∀σ H Q,t' σ H Q->t σ H Q):PE X e t':=λpins s σ H Q I q=>h pins s σ H Q I (w σ H Q q)
theorem U4{e:Expr}{t t':TT}(h:PT X e t)(w:∀σ H Q,t' σ H Q->t σ H Q):PT X e t':=λpins s σ H Q I q=>h pins s σ H Q I (w σ H Q q)
theorem X5{e:List Expr}{t t':TA}(h:PA X e t)(w:∀σ H Q,t' σ H Q->t σ H Q):PA X e t':=λpos pins s σ H Q I q=>h pos pins s σ H Q I (w σ H Q q)
variable (X G F) in
abbrev SE(e:Expr)(a:E):Prop:=PE X e (tE X.K G F a)
variable (X G F) in
abbrev ST(e:Expr)(a:E):Prop:=PT X e (tT X.K G F a)
variable (X G F) in
abbrev SA(es:List Expr)(as:Es):Prop:=PA X es (tL X.K G F as)
variable{K:PySem.W.Frag}{φ φ':List Addr}{h h1 h2:AH}{H:Hp}{σ σc:St}{a b:E}{x y:V}
theorem QA(R:Rl K G φ h H)(rs:rst φ σ σc)(ea:ev F a σ h=.ok (x,h1))(eb:ev F b σ h1=.ok (y,h2)){Rr:V->V->Hp->Prop}
  (k:∀φ2 H2 xc yc,Ext φ φ2->Rl K G φ2 h2 H2->rv φ2 x xc->rv φ2 y yc->Rr xc yc H2):tE K G F a σc H (λxc H1=>tE K G F b σc H1 (λyc H2=>Rr xc yc H2)):=
 ⟨φ,h,σ,x,h1,R,rs,ea,λφ1 H1 xc e1 R1 r1=>⟨φ1,h1,σ,y,h2,R1,rst.mono e1 rs,eb,λφ2 H2 yc e2 R2 r2=>k φ2 H2 xc yc (e1.trans e2) R2 (rv.mono e2 r1) r2⟩⟩
theorem qBj{i:Nat}{n:Str}{pos:Pos}(hN:X.N[i]?=some n)(hv:L2.Vis X.env.scope n)(hd:(n==("__debug__":Str))=false)(hcd:(n==("__classdict__":Str))=false):SE X G F (.Name n pos) (.var i):=by
 refine qh (L2.pe_var hN hv hd hcd) λσc H Q q=>?_;obtain⟨φ,h,σ,v,h',R,rs,e,k⟩:=q;unfold ev at e;split at e
 ·rename_i w q;cases e;obtain⟨oc,ec,r⟩:=qE rs q;obtain⟨u,rfl,r⟩:=r;exact⟨u,ec,k φ H u (.refl _) R r⟩
 ·cases e
theorem J8{v:V}{w:V}{σc:St}{H:Hp}{Q:VK}(hr:∀φ,rv φ v w)(q:tE K G F (.cst v) σc H Q):L2.tC w σc H Q:=by
 obtain⟨φ,h,σ,v',h',R,rs,e,k⟩:=q;unfold ev at e;cases e;exact k φ H w (.refl _) R (hr φ)
theorem j7 {i j pos}:SE X G F (.Constant (.int i) j pos) (.cst (.int i)):=qh L2.pe_int λ_ _ _=>J8 λ_=>rfl
theorem qBV {i j pos}:SE X G F (.Constant (.bool i) j pos) (.cst (.bl i)):=qh L2.pe_bl λ_ _ _=>J8 λ_=>rfl
theorem K7 {j pos}:SE X G F (.Constant .none j pos) (.cst .non):=qh L2.pe_non λ_ _ _=>J8 λ_=>trivial
theorem k8 {i j pos}:SE X G F (.Constant (.str i) j pos) (.cst (.str i)):=qh L2.pe_str λ_ _ _=>J8 λ_=>rfl
theorem m5{n:Str}{v:V}{u:Value}{pos:Pos}(hg:L2.Gl X n)(hm:X.mg n=some u)(r:RelV v u)(hv:∀φ,rv φ v v)(hd:(n==("__debug__":Str))=false):SE X G F (.Name n pos) (.cst v):=
 qh (L2.pe_glob hg hm r hd) λ_ _ _=>J8 hv
theorem qAC{n:Str}{g:Nat}{a:Addr}{pos:Pos}(hg:L2.Gl X n)(hm:X.mg n=some (.ref a))(hG:G[g]?=some a)(hd:(n==("__debug__":Str))=false):SE X G F (.Name n pos) (.glob g):=by
 refine qh (L2.pe_glob (v:=.ref a) hg hm rfl hd) λσc H Q q=>?_;obtain⟨φ,h,σ,v',h',R,rs,e,k⟩:=q;unfold ev at e;cases e;exact k φ H (.ref a) (.refl _) R (R.glob.get hG)
noncomputable def opB:BOp->Operator
 | .add=>.Add | .sub=>.Sub | .mul=>.Mult | .fdiv=>.FloorDiv | .mod=>.Mod | .pow=>.Pow | .band=>.BitAnd | .shl=>.LShift
def qEE(i j:Int):Prop:=j≠0/\j.natAbs.log2<9000
theorem Y5:OpR X (binaryOp .FloorDiv) (L2.rI qEE λi j=>.int (i.fdiv j)):=L2.opI λ_ _ _ _ _ _ _ hc q=>floordiv_int hc.1 q (.inl (PyProof.noPylong_of_log2 hc.2))
def qDu(i j:Int):Prop:=i.natAbs.log2<9000/\j.natAbs.log2<9000
theorem B4{i:Int}(h:i.natAbs.log2<9000):Builtin.Int.intBits i<=2 ^ 20:=by
 unfold Builtin.Int.intBits;have e:(2:Nat) ^ 20=1048576:=by decide
 rw[e];split<;>omega
theorem m6:OpR X (binaryOp .Mult) (L2.rI qDu λi j=>.int (i*j)):=L2.opI λ_ _ _ _ _ _ _ hc q=>mul_int q (IntMulOk.of_bits (B4 hc.1) (B4 hc.2))
theorem Jy{i:Int}(h:mid i=true):i.natAbs.log2<9000:=vG h
noncomputable def qD2(K:PySem.W.Frag):BOp->R2
 | .add=>λx y H Q=>(L2.rI0 (λi j=>.int (i+j)) x y H Q\/L2.rCat x y H Q)\/L2.rCatT K x y H Q
 | .sub=>L2.rI0 λi j=>.int (i-j)
 | .mul=>λx y H Q=>(L2.rI L2.CMul (λi j=>.int (i*j)) x y H Q\/L2.rRep x y H Q)\/L2.rI qDu (λi j=>.int (i*j)) x y H Q
 | .fdiv=>λx y H Q=>L2.rI L2.CDiv (λi j=>.int (i / j)) x y H Q\/L2.rI qEE (λi j=>.int (i.fdiv j)) x y H Q
 | .mod=>λx y H Q=>L2.rI (λ_ j=>0<j) (λi j=>.int (i % j)) x y H Q\/L2.rI (λ_ j=>j≠0) (λi j=>.int (i.fmod j)) x y H Q
 | .pow=>L2.rI L2.CPow λi j=>.int (i ^ j.toNat)
 | .band=>L2.rI0 λi j=>.int (Builtin.bitAnd i j)
 | .shl=>L2.rI L2.CPow λi j=>.int (i*2 ^ j.toNat)
theorem qAK:∀op,OpR X (binaryOp (opB op)) (qD2 X.K op)
 | .add=>(L2.op_add.or L2.op_cat).or L2.op_catT
 | .sub=>L2.op_sub
 | .mul=>(L2.op_mul.or L2.op_rep).or m6
 | .fdiv=>L2.op_fdiv.or Y5
 | .mod=>L2.op_mod.or L2.op_modN
 | .pow=>L2.op_pow
 | .band=>L2.op_and
 | .shl=>L2.op_shl
theorem QM:lim<=sizeLine:=by decide
theorem g7:lim<sizeLine:=by decide
theorem Jk{i:Int}(h:ji i=true):-(2 ^ 64)<i/\i<2 ^ 64:=by
 unfold ji two64 at h;have:=vG h;omega
theorem qAE{op:BOp}{v xc yc:V}{h':AH}{Q:VK}(e:z0 op x y h=.ok (v,h'))(R:Rl K G φ h H)(rx:rv φ x xc)(ry:rv φ y yc)
  (k:∀φ' H' w,Ext φ φ'->Rl K G φ' h' H'->rv φ' v w->Q w H'):qD2 K op xc yc H Q:=by
 cases op with
 |add=>
  dsimp only[z0]at e;split at e
  ·replace e:=jn e;obtain⟨b,rfl,e⟩:=e;split at e
   ·rename_i xs ys e1 e2;split at e
    ·rename_i hl;cases e;obtain⟨q1,a1,ys1,ha1,hH1,r1⟩:=R.mut e1;obtain⟨q2,a2,ys2,ha2,hH2,r2⟩:=R.mut e2;obtain⟨b1,rfl,hb1⟩:=qK rx;obtain⟨b2,rfl,hb2⟩:=qK ry;rw[ha1]at hb1;cases hb1;rw[ha2]at hb2;cases hb2;refine .inl (.inr ⟨a1,a2,ys1,ys2,rfl,rfl,hH1,hH2,?_,λp hp=>k (φ++[p]) _ _ ⟨[p],rfl⟩ (R.newL hp (qI r1 r2)) R.lastRef⟩);have l1:=Paired.length r1;have l2:=Paired.length r2;have:=QM;omega
    ·cases e
   ·split at e
    ·rename_i xs ys e1 e2;split at e
     ·rename_i hl;obtain⟨a1,ys1,ha1,hH1,r1⟩:=R.tup e1;obtain⟨a2,ys2,ha2,hH2,r2⟩:=R.tup e2;obtain⟨b1,rfl,hb1⟩:=qK rx;obtain⟨b2,rfl,hb2⟩:=qK ry;rw[ha1]at hb1;cases hb1;rw[ha2]at hb2;cases hb2;have l1:=Paired.length r1;have l2:=Paired.length r2;refine .inr ⟨a1,a2,ys1,ys2,rfl,rfl,hH1,hH2,?_,?_,λz=>?_,λz p hp=>?_⟩
      ·rintro rfl;exact hl.1 (List.length_eq_zero_iff.mp l1)
      ·have:=QM;omega
      ·subst z;rw[if_pos (List.length_eq_zero_iff.mp l2)]at e;cases e;exact k φ H _ (.refl _) R ha1
      ·rw[if_neg (λq=>z (by subst q;exact List.length_eq_zero_iff.mp l2.symm))]at e;cases e;exact k (φ++[p]) _ _ ⟨[p],rfl⟩ (R.newT hp (qI r1 r2)) R.lastRef
     ·cases e
    ·cases e
  ·replace e:=zE e;obtain⟨i,j,rfl,rfl,e⟩:=e;cases e;cases qB rx;cases qB ry;exact .inl (.inl ⟨_,_,rfl,rfl,k φ H _ (.refl _) R rfl⟩)
 |sub=>
  replace e:=zE e;obtain⟨i,j,rfl,rfl,e⟩:=e;cases e;cases qB rx;cases qB ry;exact⟨_,_,rfl,rfl,k φ H _ (.refl _) R rfl⟩
 |mul=>
  dsimp only[z0]at e;split at e
  ·split at e
   ·split at e
    ·rename_i xs e1;split at e
     ·rename_i hl;obtain⟨h0,hl,h3⟩:=hl;cases e;obtain⟨q1,a1,ys1,ha1,hH1,r1⟩:=R.mut e1;obtain⟨b1,rfl,hb1⟩:=qK rx;rw[ha1]at hb1;cases hb1;cases qB ry;refine .inl (.inr ⟨a1,_,ys1,rfl,rfl,hH1,by omega,by omega,?_,λp hp=>k (φ++[p]) _ _ ⟨[p],rfl⟩ (R.newL hp (Qo r1 _)) R.lastRef⟩);have l1:=Paired.length r1;have:=QM;rw[<-l1];omega
     ·cases e
    ·cases e
   ·cases e
  ·replace e:=zE e;obtain⟨i,j,rfl,rfl,e⟩:=e;split at e
   ·rename_i hs;cases e;cases qB rx;cases qB ry;rw[wq,wq,Bool.and_eq_true]at hs;rcases hs with(z|z)|z
    ·exact .inl (.inl ⟨_,_,rfl,rfl,.inl (Jk z),k φ H _ (.refl _) R rfl⟩)
    ·exact .inl (.inl ⟨_,_,rfl,rfl,.inr (Jk z),k φ H _ (.refl _) R rfl⟩)
    ·exact .inr ⟨_,_,rfl,rfl,⟨Jy z.1,Jy z.2⟩,k φ H _ (.refl _) R rfl⟩
   ·cases e
 |fdiv=>
  replace e:=zE e;obtain⟨i,j,rfl,rfl,e⟩:=e;split at e
  ·rename_i hc;cases e;cases qB rx;cases qB ry;rcases hc.2 with z|z
   ·exact .inl ⟨_,_,rfl,rfl,⟨hc.1,z⟩,k φ H _ (.refl _) R rfl⟩
   ·refine .inr ⟨_,_,rfl,rfl,⟨by omega,Jy z⟩,?_⟩;dsimp only;rw[Int.fdiv_eq_ediv_of_nonneg _ (by omega)];exact k φ H _ (.refl _) R rfl
  ·split at e
   ·rename_i hc;cases e;cases qB rx;cases qB ry;exact .inr ⟨_,_,rfl,rfl,⟨by omega,Jy hc.2⟩,k φ H _ (.refl _) R rfl⟩
   ·cases e
 |mod=>
  replace e:=zE e;obtain⟨i,j,rfl,rfl,e⟩:=e;split at e
  ·rename_i hc;cases e;cases qB rx;cases qB ry;exact .inl ⟨_,_,rfl,rfl,hc,k φ H _ (.refl _) R rfl⟩
  ·split at e
   ·rename_i hc;cases e;cases qB rx;cases qB ry;exact .inr ⟨_,_,rfl,rfl,(by omega),k φ H _ (.refl _) R rfl⟩
   ·cases e
 |pow=>
  replace e:=zE e;obtain⟨i,j,rfl,rfl,e⟩:=e;split at e
  ·rename_i hc;cases e;cases qB rx;cases qB ry;refine⟨_,_,rfl,rfl,⟨hc.1,by omega,by omega⟩,k φ H _ (.refl _) R rfl⟩
  ·cases e
 |band=>
  replace e:=zE e;obtain⟨i,j,rfl,rfl,e⟩:=e;cases e;cases qB rx;cases qB ry;exact⟨_,_,rfl,rfl,k φ H _ (.refl _) R rfl⟩
 |shl=>
  replace e:=zE e;obtain⟨i,j,rfl,rfl,e⟩:=e;split at e
  ·rename_i hc;cases e;cases qB rx;cases qB ry;refine⟨_,_,rfl,rfl,⟨hc.1,by omega,by omega⟩,k φ H _ (.refl _) R rfl⟩
  ·cases e
theorem Z2{op:BOp}{ea eb:Expr}{pos:Pos}(ha:SE X G F ea a)(hb:SE X G F eb b):SE X G F (.BinOp ea (opB op) eb pos) (.bin op a b):=by
 refine qh (L2.pe_op (qAK op) ha hb) λσc H Q q=>?_;obtain⟨φ,h,σ,v,h',R,rs,e,k⟩:=q;unfold ev at e;obtain⟨⟨x,h1⟩,e1,e⟩:=Res.bind_inv e;obtain⟨⟨y,h2⟩,e2,e⟩:=Res.bind_inv e;exact QA R rs e1 e2 λφ2 H2 xc yc x2 R2 r1 r2=>qAE e R2 r1 r2 λφ' H' w x' R' r'=>k φ' H' w (x2.trans x') R' r'
theorem qBT{ea:Expr}{pos:Pos}(ha:SE X G F ea a):SE X G F (.UnaryOp .USub ea pos) (.neg a):=by
 refine qh (L2.pe_un L2.un_neg ha) λσc H Q q=>?_;obtain⟨φ,h,σ,v,h',R,rs,e,k⟩:=q;unfold ev at e;obtain⟨⟨x,h1⟩,e1,e⟩:=Res.bind_inv e;refine⟨φ,h,σ,x,h1,R,rs,e1,λφ1 H1 xc x1 R1 r1=>?_⟩;dsimp only at e;split at e
 ·cases e;cases qB r1;exact⟨_,rfl,k φ1 H1 _ x1 R1 rfl⟩
 ·cases e
end
open PySem.SeqAt
structure Eq3(A:Around)(s:Shared)(u w:Value)(b:Bool):Prop where
 eq:EqAt A s u w b
 rc:RcAt A s u w b
 ne:RcNeAt A s u w (!b)
theorem Zi{A:Around}{s:Shared}{φ:List Addr}:∀{x y xc yc:V}{u w:Value}{b:Bool},eqF x y=some b->rv φ x xc->rv φ y yc->RelV xc u->RelV yc w->Eq3 A s u w b:=by
 intro x y xc yc u w b e rx ry ru rw';cases x with
 |non=>
  cases zF rx;cases ru;cases y with
  |non=>cases zF ry;cases rw';cases e;exact⟨.same _,.none_none,.none_none⟩
  |bl j=>cases zH ry;cases rw';cases e;exact⟨.none_bool _,.none_bool _,.none_bool _⟩
  |int j=>cases qB ry;obtain⟨t,rfl⟩:=rw';cases e;exact⟨.none_int _ _,.none_int _ _,.none_int _ _⟩
  |str j=>cases zP ry;obtain⟨t,rfl⟩:=rw';cases e;exact⟨.none_str _ _,.none_str _ _,.none_str _ _⟩
  |_=>cases e
 |bl i=>
  cases zH rx;cases ru;cases y with
  |non=>cases zF ry;cases rw';cases e;exact⟨.bool_none _,.bool_none _,.bool_none _⟩
  |bl j=>cases zH ry;cases rw';cases e;exact⟨.bool_bool _ _,.bool_bool _ _,.bool_bool _ _⟩
  |int j=>cases qB ry;obtain⟨t,rfl⟩:=rw';cases e;exact⟨.bool_int _ _ _,.bool_int _ _ _,.bool_int _ _ _⟩
  |str j=>cases zP ry;obtain⟨t,rfl⟩:=rw';cases e;exact⟨.bool_str _ _ _,.bool_str _ _ _,.bool_str _ _ _⟩
  |_=>cases e
 |int i=>
  cases qB rx;obtain⟨t,rfl⟩:=ru;cases y with
  |non=>cases zF ry;cases rw';cases e;exact⟨.int_none _ _,.int_none _ _,.int_none _ _⟩
  |bl j=>cases zH ry;cases rw';cases e;exact⟨.int_bool _ _ _,.int_bool _ _ _,.int_bool _ _ _⟩
  |int j=>cases qB ry;obtain⟨t,rfl⟩:=rw';cases e;exact⟨.int_int _ _ _ _,.int_int _ _ _ _,.int_int _ _ _ _⟩
  |str j=>cases zP ry;obtain⟨t,rfl⟩:=rw';cases e;exact⟨.int_str _ _ _ _,.int_str _ _ _ _,.int_str _ _ _ _⟩
  |_=>cases e
 |str i=>
  cases zP rx;obtain⟨t,rfl⟩:=ru;cases y with
  |non=>cases zF ry;cases rw';cases e;exact⟨.str_none _ _,.str_none _ _,.str_none _ _⟩
  |bl j=>cases zH ry;cases rw';cases e;exact⟨.str_bool _ _ _,.str_bool _ _ _,.str_bool _ _ _⟩
  |int j=>cases qB ry;obtain⟨t,rfl⟩:=rw';cases e;exact⟨.str_int _ _ _ _,.str_int _ _ _ _,.str_int _ _ _ _⟩
  |str j=>cases zP ry;obtain⟨t,rfl⟩:=rw';cases e;exact⟨.str_str _ _ _ _,.str_str _ _ _ _,.str_str _ _ _ _⟩
  |_=>cases e
 |_=>cases y<;>cases e
theorem Jw{φ:List Addr}{x y w:V}{b:Bool}(e:eqF x y=some b)(rx:rv φ x w)(ry:rv φ y w):b=true:=by
 cases x with
 |non=>cases zF rx;cases y<;>first|exact False.elim ry|(cases e;rfl)|cases e
 |bl i=>cases zH rx;cases y<;>first|exact False.elim ry|(rename_i j;cases (show j=i from ry);cases e;simp)|cases e
 |int i=>cases qB rx;cases y<;>first|exact False.elim ry|(rename_i j;cases (show j=i from ry);cases e;simp)|cases e
 |str i=>cases zP rx;cases y<;>first|exact False.elim ry|(rename_i j;cases (show j=i from ry);cases e;simp)|cases e
 |_=>cases y<;>cases e
theorem QI{f:V->V->Option Bool}:∀{xs ys:List V}{bs:List Bool},Qa f xs ys=some bs->bs.length=xs.length/\ys.length=xs.length/\∀(j:Nat) x y,xs[j]?=some x->ys[j]?=some y->∃b,bs[j]?=some b/\f x y=some b
 | [],[],bs,e=>by
  cases e;exact⟨rfl,rfl,λj x y h=>by simp at h⟩
 | [],_::_,_,e=>by cases e
 |_::_,[],_,e=>by cases e
 |x::xs,y::ys,bs,e=>by
  unfold Qa at e;split at e
  ·rename_i b bs' e1 e2;cases e;obtain⟨l1,l2,k⟩:=QI e2;refine⟨by simp[l1],by simp[l2],λj u v h1 h2=>?_⟩;cases j with
   |zero=>simp at h1 h2;subst h1 h2;exact⟨b,rfl,e1⟩
   |succ j=>obtain⟨b',h3,h4⟩:=k j u v (by simpa using h1) (by simpa using h2);exact⟨b',by simpa using h3,h4⟩
  ·cases e
theorem Zs(bs:List Bool):(List.range bs.length).all (λj=>bs.getD j true)=bs.all id:=by
 rw[wa];simp only[wF,wY,id];constructor
 ·intro h b hb;obtain⟨j,hj,rfl⟩:=wd.mp hb;have:=h j hj;rw[wG,wA hj]at this;exact this
 ·intro h j hj;rw[wG,wA hj];exact h _ (wg hj)
section
variable{X:Cx}{G φ:List Addr}{h:AH}{H:Hp}{pins:List (Addr×Obj)}{σ:L2.St}{s:Shared}
theorem A5(I:Inv X pins σ H s)(R:Rl X.K G φ h H):∀(n:Nat){x y w:V}{b:Bool},eqD h n x y=some b->rv φ x w->rv φ y w->b=true
 | 0,x,y,w,b,e,rx,ry=>Jw e rx ry
 |n+1,x,y,w,b,e,rx,ry=>by
  have all:∀{xs ys zs:List V}{bs:List Bool},rvs φ xs zs->rvs φ ys zs->Qa (eqD h n) xs ys=some bs->bs.all id=true:=λ{xs ys zs bs} r1 r2 e=>by
   obtain⟨l1,l2,k⟩:=QI e;rw[wF];intro b hb;obtain⟨j,hj,rfl⟩:=wd.mp hb;have hx:j<xs.length:=by omega
   have hy:j<ys.length:=by omega
   obtain⟨b',hb',e'⟩:=k j _ _ (wA hx) (wA hy);rw[wA hj]at hb';cases hb';obtain⟨z,hz,q1⟩:=qE r1 (wA hx);obtain⟨z',hz',q2⟩:=qE r2 (wA hy);rw[hz]at hz';cases hz';exact A5 I R n e' q1 q2
  cases x with
  |ref a=>
   obtain⟨p,rfl,hp⟩:=qK rx;cases y with
   |ref c=>
    have hc:φ[c]?=some p:=ry;simp only[eqD]at e;split at e
    ·rename_i f1 xs f2 ys e1 e2;split at e
     ·cases e;rfl
     ·obtain⟨p1,z1,q1,s1,r1⟩:=R.lst (i:=a) (xs:=xs) (by unfold qP;rw[e1]);obtain⟨p2,z2,q2,s2,r2⟩:=R.lst (i:=c) (xs:=ys) (by unfold qP;rw[e2]);rw[hp]at q1;cases q1;rw[hc]at q2;cases q2;have:=I.list_inj s1 s2;subst this;split at e
      ·obtain⟨bs,e3,rfl⟩:=Option.map_eq_some_iff.mp e;exact all r1 r2 e3
      ·rename_i hne;exact absurd ((Paired.length r1).trans (Paired.length r2).symm) hne
    ·rename_i xs ys e1 e2;split at e
     ·cases e;rfl
     ·obtain⟨p1,z1,q1,s1,r1⟩:=R.tup (i:=a) (xs:=xs) (by unfold qW;rw[e1]);obtain⟨p2,z2,q2,s2,r2⟩:=R.tup (i:=c) (xs:=ys) (by unfold qW;rw[e2]);rw[hp]at q1;cases q1;rw[hc]at q2;cases q2;have:=I.tuple_inj s1 s2;subst this;split at e
      ·obtain⟨bs,e3,rfl⟩:=Option.map_eq_some_iff.mp e;exact all r1 r2 e3
      ·rename_i hne;exact absurd ((Paired.length r1).trans (Paired.length r2).symm) hne
    ·rename_i f1 xs ys e1 e2;obtain⟨p1,z1,q1,s1,r1⟩:=R.lst (i:=a) (xs:=xs) (by unfold qP;rw[e1]);obtain⟨p2,z2,q2,s2,r2⟩:=R.tup (i:=c) (xs:=ys) (by unfold qW;rw[e2]);rw[hp]at q1;cases q1;rw[hc]at q2;cases q2;obtain⟨i1,_,t1,_⟩:=I.list s1;obtain⟨i2,_,t2,_⟩:=I.tuple s2;exact absurd rfl (ne_of_list_tuple t1.isList t2)
    ·rename_i xs f1 ys e1 e2;obtain⟨p1,z1,q1,s1,r1⟩:=R.tup (i:=a) (xs:=xs) (by unfold qW;rw[e1]);obtain⟨p2,z2,q2,s2,r2⟩:=R.lst (i:=c) (xs:=ys) (by unfold qP;rw[e2]);rw[hp]at q1;cases q1;rw[hc]at q2;cases q2;obtain⟨i1,_,t1,_⟩:=I.tuple s1;obtain⟨i2,_,t2,_⟩:=I.list s2;exact absurd rfl (ne_of_list_tuple t2.isList t1)
    ·cases e
   |_=>exact False.elim ry
  |_=>
   cases y with
   |ref c=>
    obtain⟨p,rfl,hp⟩:=qK ry;exact False.elim rx
   |_=>exact Jw e rx ry
theorem P6(I:Inv X pins σ H s)(R:Rl X.K G φ h H):∀(n:Nat){A:Around}{x y xc yc:V}{u w:Value}{b:Bool},A.units+n<cLine->eqD h n x y=some b->rv φ x xc->rv φ y yc->RelV xc u->RelV yc w->Eq3 A s u w b
 | 0,A,x,y,xc,yc,u,w,b,hu,e,rx,ry,ru,rw'=>Zi e rx ry ru rw'
 |n+1,A,x,y,xc,yc,u,w,b,hu,e,rx,ry,ru,rw'=>by
  have hu0:A.units<cLine:=by omega
  have hu1:A.in1.units+n<cLine:=by show A.units+1+n<cLine;omega
  have item:∀{xs ys zs ts:List V}{us ws:List Value}{bs:List Bool},rvs φ xs zs->rvs φ ys ts->Vals zs us->Vals ts ws->Qa (eqD h n) xs ys=some bs->us.length=bs.length/\ws.length=bs.length/\
    ∀(j:Nat) (h1:j<us.toArray.size) (h2:j<ws.toArray.size),EqAt A.in1 s us.toArray[j] ws.toArray[j] (bs.getD j true):=λ{xs ys zs ts us ws bs} r1 r2 v1 v2 e=>by
   obtain⟨l1,l2,k⟩:=QI e;have n1:=Paired.length r1;have n2:=Paired.length r2;have n3:=v1.length;have n4:=v2.length;refine⟨by omega,by omega,λj h1 h2=>?_⟩;have g1:j<us.length:=by simpa using h1
   have g2:j<ws.length:=by simpa using h2
   have hx:j<xs.length:=by omega
   have hy:j<ys.length:=by omega
   obtain⟨b',hb',e'⟩:=k j _ _ (wA hx) (wA hy);obtain⟨z,hz,q1⟩:=qE r1 (wA hx);obtain⟨t,ht,q2⟩:=qE r2 (wA hy);obtain⟨u',hu',q3⟩:=v1.get hz;obtain⟨w',hw',q4⟩:=v2.get ht;rw[wA g1]at hu';rw[wA g2]at hw';cases hu';cases hw';rw[wG,hb'];have:=(P6 I R n (A:=A.in1) hu1 e' q1 q2 q3 q4).eq;simpa using this
  have refs:∀{a:Nat}{p:Addr}{v:V}{b:Bool},φ[a]?=some p->(if (items h a).isSome&&flat v then some false else none)=some b->b=false/\∃its,s.heap.IsList p its\/s.heap.IsTuple p its:=λ{a p v b} hp e=>by
   cases ea:h[a]? with
   |none=>rw[show items h a=none from(by unfold items;rw[ea])]at e;cases e
   |some o=>
    have hb:b=false:=by
     split at e
     ·cases e;rfl
     ·cases e
    refine⟨hb,?_⟩;cases o with
    |lst f xs=>
     obtain⟨p1,z1,q1,s1,r1⟩:=R.lst (i:=a) (xs:=xs) (by unfold qP;rw[ea]);rw[hp]at q1;cases q1;obtain⟨i1,_,t1,_⟩:=I.list s1;exact⟨_,.inl t1.isList⟩
    |tup xs=>
     obtain⟨p1,z1,q1,s1,r1⟩:=R.tup (i:=a) (xs:=xs) (by unfold qW;rw[ea]);rw[hp]at q1;cases q1;obtain⟨i1,_,t1,_⟩:=I.tuple s1;exact⟨_,.inr t1⟩
    |ob ks=>rw[show items h a=none from(by unfold items;rw[ea])]at e;cases e
  cases x with
  |ref a=>
   obtain⟨p,rfl,hp⟩:=qK rx;cases ru;cases y with
   |ref c=>
    obtain⟨q,rfl,hq⟩:=qK ry;cases rw';have same:p=q->b=true:=λz=>by
     subst z;exact A5 I R (n+1) e rx (show rv φ (.ref c) (.ref p) from hq)
    simp only[eqD]at e;split at e
    ·rename_i f1 xs f2 ys e1 e2;obtain⟨p1,z1,q1,s1,r1⟩:=R.lst (i:=a) (xs:=xs) (by unfold qP;rw[e1]);obtain⟨p2,z2,q2,s2,r2⟩:=R.lst (i:=c) (xs:=ys) (by unfold qP;rw[e2]);rw[hp]at q1;cases q1;rw[hq]at q2;cases q2;obtain⟨i1,v1,t1,_⟩:=I.list s1;obtain⟨i2,v2,t2,_⟩:=I.list s2;split at e
     ·rename_i hac;subst hac;rw[hp]at hq;cases hq;cases e;have rc:=RcAt.lists (A:=A) (e:=λ_=>true) t1.isList t1.isList rfl hu0 λj _ _=>EqAt.same _;have ne:=RcNeAt.lists (A:=A) (e:=λ_=>true) t1.isList t1.isList rfl hu0 λj _ _=>EqAt.same _;have al:∀l:List Nat,(l.all λ_=>true)=true:=λl=>by simp
      rw[al]at rc ne;exact⟨.same _,rc,ne⟩
     ·split at e
      ·obtain⟨bs,e3,rfl⟩:=Option.map_eq_some_iff.mp e;obtain⟨m1,m2,he⟩:=item r1 r2 v1 v2 e3;have hsz:i1.toArray.size=i2.toArray.size:=by simp;omega
       have rc:=RcAt.lists (A:=A) (e:=λj=>bs.getD j true) t1.isList t2.isList hsz hu0 he;have ne:=RcNeAt.lists (A:=A) (e:=λj=>bs.getD j true) t1.isList t2.isList hsz hu0 he;have sz:i1.toArray.size=bs.length:=by simpa using m1
       rw[sz,Zs]at rc ne;refine⟨?_,rc,ne⟩;by_cases hpq:p=q
       ·rw[same hpq];subst hpq;exact .same _
       ·exact .of_refs hpq rc
      ·rename_i hl;cases e;have n1:=Paired.length r1;have n2:=Paired.length r2;have n3:=v1.length;have n4:=v2.length;have hsz:(i1.toArray.size != i2.toArray.size)=true:=by simp;omega
       have rc:=RcAt.lists_lengths (A:=A) t1.isList t2.isList hsz hu0;have ne:=RcNeAt.lists_lengths (A:=A) t1.isList t2.isList hsz hu0;refine⟨?_,rc,ne⟩;by_cases hpq:p=q
       ·exact absurd (same hpq) (by decide)
       ·exact .of_refs hpq rc
    ·rename_i xs ys e1 e2;obtain⟨p1,z1,q1,s1,r1⟩:=R.tup (i:=a) (xs:=xs) (by unfold qW;rw[e1]);obtain⟨p2,z2,q2,s2,r2⟩:=R.tup (i:=c) (xs:=ys) (by unfold qW;rw[e2]);rw[hp]at q1;cases q1;rw[hq]at q2;cases q2;obtain⟨i1,v1,t1,_⟩:=I.tuple s1;obtain⟨i2,v2,t2,_⟩:=I.tuple s2;have t1':s.heap.IsTuple p i1.toArray:=t1;have t2':s.heap.IsTuple q i2.toArray:=t2;split at e
     ·rename_i hac;subst hac;rw[hp]at hq;cases hq;cases e;have rc:=RcAt.tuples (A:=A) (e:=λ_=>true) t1' t1' hu0 λj _ _=>EqAt.same _;have ne:=RcNeAt.tuples (A:=A) (e:=λ_=>true) t1' t1' hu0 λj _ _=>EqAt.same _;have al:∀l:List Nat,(l.all λ_=>true)=true:=λl=>by simp
      rw[al]at rc ne;simp only[vI,Bool.and_self]at rc ne;exact⟨.same _,rc,ne⟩
     ·split at e
      ·obtain⟨bs,e3,rfl⟩:=Option.map_eq_some_iff.mp e;obtain⟨m1,m2,he⟩:=item r1 r2 v1 v2 e3;have hsz:i1.toArray.size=i2.toArray.size:=by simp;omega
       have rc:=RcAt.tuples (A:=A) (e:=λj=>bs.getD j true) t1' t2' hu0 he;have ne:=RcNeAt.tuples (A:=A) (e:=λj=>bs.getD j true) t1' t2' hu0 he;have sz:i1.toArray.size=bs.length:=by simpa using m1
       have sz2:i2.toArray.size=bs.length:=by simpa using m2
       rw[sz,sz2,Nat.min_self,Zs,vI,Bool.and_true]at rc ne;refine⟨?_,rc,ne⟩;by_cases hpq:p=q
       ·rw[same hpq];subst hpq;exact .same _
       ·exact .of_refs hpq rc
      ·rename_i hl;have n1:=Paired.length r1;have n2:=Paired.length r2;have n3:=v1.length;have n4:=v2.length;obtain⟨bs,e3,hb⟩:=Option.map_eq_some_iff.mp e;subst hb;have hsz:(i1.toArray.size==i2.toArray.size)=false:=by simp;omega
       obtain⟨m1,m2,he⟩:=item (qy ys.length r1) (qy xs.length r2) (v1.take ys.length) (v2.take xs.length) e3;have he':∀(j:Nat) (h1:j<i1.toArray.size) (h2:j<i2.toArray.size),EqAt A.in1 s i1.toArray[j] i2.toArray[j] (bs.getD j true):=λj h1 h2=>by
        have g1:j<i1.length:=by simpa using h1
        have g2:j<i2.length:=by simpa using h2
        have:=he j (by simp;omega) (by simp;omega);simpa using this
       have rc:=RcAt.tuples (A:=A) (e:=λj=>bs.getD j true) t1' t2' hu0 he';have ne:=RcNeAt.tuples (A:=A) (e:=λj=>bs.getD j true) t1' t2' hu0 he';rw[hsz,Bool.and_false]at rc ne;refine⟨?_,rc,ne⟩;by_cases hpq:p=q
       ·exact absurd (same hpq) (by decide)
       ·exact .of_refs hpq rc
    ·rename_i f1 xs ys e1 e2;cases e;obtain⟨p1,z1,q1,s1,r1⟩:=R.lst (i:=a) (xs:=xs) (by unfold qP;rw[e1]);obtain⟨p2,z2,q2,s2,r2⟩:=R.tup (i:=c) (xs:=ys) (by unfold qW;rw[e2]);rw[hp]at q1;cases q1;rw[hq]at q2;cases q2;obtain⟨i1,_,t1,_⟩:=I.list s1;obtain⟨i2,_,t2,_⟩:=I.tuple s2;exact⟨.list_tuple t1.isList t2 hu0,.list_tuple t1.isList t2 hu0,.list_tuple t1.isList t2 hu0⟩
    ·rename_i xs f1 ys e1 e2;cases e;obtain⟨p1,z1,q1,s1,r1⟩:=R.tup (i:=a) (xs:=xs) (by unfold qW;rw[e1]);obtain⟨p2,z2,q2,s2,r2⟩:=R.lst (i:=c) (xs:=ys) (by unfold qP;rw[e2]);rw[hp]at q1;cases q1;rw[hq]at q2;cases q2;obtain⟨i1,_,t1,_⟩:=I.tuple s1;obtain⟨i2,_,t2,_⟩:=I.list s2;exact⟨.tuple_list t1 t2.isList hu0,.tuple_list t1 t2.isList hu0,.tuple_list t1 t2.isList hu0⟩
    ·cases e
   |non=>
    cases zF ry;cases rw';rcases refs hp (show (if (items h a).isSome&&flat V.non then some false else none)=some b from e) with⟨rfl,its,t|t⟩
    ·exact⟨.list_none t hu0,.list_none t hu0,.list_none t hu0⟩
    ·exact⟨.tuple_none t hu0,.tuple_none t hu0,.tuple_none t hu0⟩
   |bl j=>
    cases zH ry;cases rw';rcases refs hp (show (if (items h a).isSome&&flat (V.bl j) then some false else none)=some b from e) with⟨rfl,its,t|t⟩
    ·exact⟨.list_bool _ t hu0,.list_bool _ t hu0,.list_bool _ t hu0⟩
    ·exact⟨.tuple_bool _ t hu0,.tuple_bool _ t hu0,.tuple_bool _ t hu0⟩
   |int j=>
    cases qB ry;obtain⟨t',rfl⟩:=rw';rcases refs hp (show (if (items h a).isSome&&flat (V.int j) then some false else none)=some b from e) with⟨rfl,its,t|t⟩
    ·exact⟨.list_int _ _ t hu0,.list_int _ _ t hu0,.list_int _ _ t hu0⟩
    ·exact⟨.tuple_int _ _ t hu0,.tuple_int _ _ t hu0,.tuple_int _ _ t hu0⟩
   |str j=>
    cases zP ry;obtain⟨t',rfl⟩:=rw';rcases refs hp (show (if (items h a).isSome&&flat (V.str j) then some false else none)=some b from e) with⟨rfl,its,t|t⟩
    ·exact⟨.list_str _ _ t hu0,.list_str _ _ t hu0,.list_str _ _ t hu0⟩
    ·exact⟨.tuple_str _ _ t hu0,.tuple_str _ _ t hu0,.tuple_str _ _ t hu0⟩
   |_=>exact False.elim ry
  |non=>
   cases y with
   |ref c=>
    obtain⟨p,rfl,hp⟩:=qK ry;cases rw';cases zF rx;cases ru;rcases refs hp (show (if (items h c).isSome&&flat V.non then some false else none)=some b from(Bool.and_comm _ _) ▸ e) with⟨rfl,its,t|t⟩
    ·exact⟨.none_list t hu0,.none_list t hu0,.none_list t hu0⟩
    ·exact⟨.none_tuple t hu0,.none_tuple t hu0,.none_tuple t hu0⟩
   |_=>exact Zi e rx ry ru rw'
  |bl i=>
   cases y with
   |ref c=>
    obtain⟨p,rfl,hp⟩:=qK ry;cases rw';cases zH rx;cases ru;rcases refs hp (show (if (items h c).isSome&&flat (V.bl i) then some false else none)=some b from(Bool.and_comm _ _) ▸ e) with⟨rfl,its,t|t⟩
    ·exact⟨.bool_list _ t hu0,.bool_list _ t hu0,.bool_list _ t hu0⟩
    ·exact⟨.bool_tuple _ t hu0,.bool_tuple _ t hu0,.bool_tuple _ t hu0⟩
   |_=>exact Zi e rx ry ru rw'
  |int i=>
   cases y with
   |ref c=>
    obtain⟨p,rfl,hp⟩:=qK ry;cases rw';cases qB rx;obtain⟨t',rfl⟩:=ru;rcases refs hp (show (if (items h c).isSome&&flat (V.int i) then some false else none)=some b from(Bool.and_comm _ _) ▸ e) with⟨rfl,its,t|t⟩
    ·exact⟨.int_list _ _ t hu0,.int_list _ _ t hu0,.int_list _ _ t hu0⟩
    ·exact⟨.int_tuple _ _ t hu0,.int_tuple _ _ t hu0,.int_tuple _ _ t hu0⟩
   |_=>exact Zi e rx ry ru rw'
  |str i=>
   cases y with
   |ref c=>
    obtain⟨p,rfl,hp⟩:=qK ry;cases rw';cases zP rx;obtain⟨t',rfl⟩:=ru;rcases refs hp (show (if (items h c).isSome&&flat (V.str i) then some false else none)=some b from(Bool.and_comm _ _) ▸ e) with⟨rfl,its,t|t⟩
    ·exact⟨.str_list _ _ t hu0,.str_list _ _ t hu0,.str_list _ _ t hu0⟩
    ·exact⟨.str_tuple _ _ t hu0,.str_tuple _ _ t hu0,.str_tuple _ _ t hu0⟩
   |_=>exact Zi e rx ry ru rw'
  |_=>cases xc<;>exact False.elim rx
end
theorem JZ{φ:List Addr}:∀{x w:V},flat x=true->rv φ x w->w=x
 | .non,_,_,h=>zF h
 | .bl _,_,_,h=>zH h
 | .int _,_,_,h=>qB h
 | .str _,_,_,h=>zP h
 | .ref _,_,f,_=>by cases f
 | .byt _,_,f,_=>by cases f
 | .flt _,_,f,_=>by cases f
 | .ty _,_,f,_=>by cases f
theorem ZN{φ:List Addr}:∀{xs ws:List V},xs.all flat=true->rvs φ xs ws->ws=xs
 |_,_,_,.nil=>rfl
 |x::xs,w::ws,f,.cons r t=>by
  simp only[List.all_cons,Bool.and_eq_true]at f;rw[JZ f.1 r,ZN f.2 t]
theorem Ju:∀x:V,L2.flatV x=flat x:=by intro x;cases x<;>rfl
theorem J6(xs:List V):xs.all L2.flatV=xs.all flat:=by
 induction xs with
 |nil=>rfl
 |cons x xs ih=>rw[List.all_cons,List.all_cons,ih,Ju]
section
variable{X:Cx}{G:List Addr}{F:Nat->List V->AH->RV}
noncomputable def opC:COp->CmpOp
 | .lt=>.Lt | .le=>.LtE | .gt=>.Gt | .ge=>.GtE | .eq=>.Eq | .ne=>.NotEq | .inn=>.In | .notin=>.NotIn | .is=>.Is | .isnot=>.IsNot
variable (X G) in
noncomputable def qCW(op:COp):R2:=λx y H Q=>∃φ h xa ya b,Rl X.K G φ h H/\rv φ xa x/\rv φ ya y/\G4 op xa ya h=some b/\Q (.bl b) H
theorem Jq{φ:List Addr}{x y:V}(r:rv φ x y):decide (x=V.non)=decide (y=V.non):=by
 by_cases hx:x=V.non
 ·subst hx;cases zF r;rfl
 ·have hy:y≠V.non:=λhy=>by subst hy;cases x<;>first|exact hx rfl|exact False.elim r
  rw[vD hx,vD hy]
theorem JN(kvs:List (Int×V))(i:Int):((kvs.map kk).any λkv=>decide (kv.1=Sum.inl i))=qAi kvs i:=by
 unfold qAi;rw[List.any_map];congr 1
 funext p
 show decide ((Sum.inl p.1:L2.Key)=Sum.inl i)=_;rw[wa];simp
theorem qAQ(kvs:List (Int×V))(i:Int)(v:V):L2.putK (kvs.map kk) (Sum.inl i:L2.Key) v=(qDO kvs i v).map kk:=by
 unfold L2.putK qDO;rw[JN];split
 ·rw[wl,wl];congr 1
  funext p
  show (if (Sum.inl p.1:L2.Key)=Sum.inl i then ((Sum.inl p.1:L2.Key),v) else kk p)=kk (if p.1=i then (p.1,v) else p);by_cases h:p.1=i
  ·rw[if_pos (by rw[h]),if_pos h];rfl
  ·rw[if_neg (λz=>h (Sum.inl.inj z)),if_neg h]
 ·rw[wz];rfl
theorem jT(hu:X.A.units+8<cLine):∀op,OpR X (compareOp (opC op)) (qCW X G op):=by
 intro op pins s σ H x y v u Q I rx ry ⟨φ,h,xa,ya,b,R,r1,r2,e,q⟩;have hin:∀(neg:Bool){p:Nat}{ya':V}(e:(match items h p with|some xs=>if flat xa&&xs.all flat then some (if neg then !(xs.any λy=>L2.eqV y xa) else xs.any λy=>L2.eqV y xa) else none|none=>none)=some b),rv φ (.ref p) y->L2.rIn X.K neg x y H Q:=by
  intro neg p ya' e r2;split at e
  ·rename_i xs ex;split at e
   ·rename_i hf;simp only[Bool.and_eq_true]at hf;obtain⟨a,ys,ha,hs,rs⟩:=R.its ex;obtain⟨a',rfl,ha'⟩:=qK r2;rw[ha]at ha';cases ha';have e1:=JZ hf.1 r1;have e2:=ZN hf.2 rs;subst e1 e2;refine⟨a,ys,rfl,hs,by rw[Ju];exact hf.1,by rw[J6];exact hf.2,?_⟩;cases e;exact q
   ·cases e
  ·cases e
 cases op with
 |lt=>
  replace e:=jl e;obtain⟨i,j,rfl,rfl,rfl⟩:=e;cases qB r1;cases qB r2;exact L2.op_lt pins s σ H _ _ v u Q I rx ry ⟨_,_,rfl,rfl,q⟩
 |le=>
  replace e:=jl e;obtain⟨i,j,rfl,rfl,rfl⟩:=e;cases qB r1;cases qB r2;exact L2.op_le pins s σ H _ _ v u Q I rx ry ⟨_,_,rfl,rfl,q⟩
 |gt=>
  replace e:=jl e;obtain⟨i,j,rfl,rfl,rfl⟩:=e;cases qB r1;cases qB r2;exact L2.op_gt pins s σ H _ _ v u Q I rx ry ⟨_,_,rfl,rfl,q⟩
 |ge=>
  replace e:=jl e;obtain⟨i,j,rfl,rfl,rfl⟩:=e;cases qB r1;cases qB r2;exact L2.op_ge pins s σ H _ _ v u Q I rx ry ⟨_,_,rfl,rfl,q⟩
 |eq=>exact(P6 I R 4 (by omega) (show eqD h 4 xa ya=some b from e) r1 r2 rx ry).rc _ _ _ _ ⟨.bl b,H,I,rfl,q⟩
 |ne=>
  have e':(eqD h 4 xa ya).map (!·)=some b:=e;obtain⟨c,e1,rfl⟩:=Option.map_eq_some_iff.mp e';exact(P6 I R 4 (by omega) e1 r1 r2 rx ry).ne _ _ _ _ ⟨.bl (!c),H,I,rfl,q⟩
 |inn=>
  replace e:=Jz e;obtain⟨p,rfl,e⟩:=e;cases ei:items h p with
  |some xs=>exact L2.op_in_seq pins s σ H x y v u Q I rx ry (hin false (ya':=.non) (by rw[ei]at e ⊢;exact e) r2)
  |none=>
   rw[ei]at e;dsimp only at e;split at e
   ·rename_i kvs ed;split at e
    ·rename_i i;cases e;obtain⟨a,ea,_,hH⟩:=R.dct ed;obtain⟨a',rfl,ha'⟩:=qK r2;rw[ea]at ha';cases ha';cases qB r1;cases ry;refine L2.d_in (by omega) I (L2.DGet.k (k:=.inl i) hH) rx λs' I'=>⟨.bl (L2.valV (kvs.map kk) (Sum.inl i)).isSome,H,I',rfl,?_⟩
     rw[<-L2.valV_any,JN];exact q
    ·cases e
   ·cases e
 |notin=>
  replace e:=Jz e;obtain⟨p,rfl,e⟩:=e;cases ei:items h p with
  |some xs=>exact L2.op_notIn_seq pins s σ H x y v u Q I rx ry (hin true (ya':=.non) (by rw[ei]at e ⊢;exact e) r2)
  |none=>
   rw[ei]at e;dsimp only at e;split at e
   ·rename_i kvs ed;split at e
    ·rename_i i;cases e;obtain⟨a,ea,_,hH⟩:=R.dct ed;obtain⟨a',rfl,ha'⟩:=qK r2;rw[ea]at ha';cases ha';cases qB r1;cases ry;refine L2.d_notIn (by omega) I (L2.DGet.k (k:=.inl i) hH) rx λs' I'=>⟨.bl (!(L2.valV (kvs.map kk) (Sum.inl i)).isSome),H,I',rfl,?_⟩
     rw[<-L2.valV_any,JN];exact q
    ·cases e
   ·cases e
 |is=>
  rcases K4 (show isC xa ya id=some b from e) with⟨rfl,rfl⟩|⟨c,d,rfl,rfl,rfl⟩
  ·cases zF r2;rw[Jq r1]at q;exact L2.op_isN pins s σ H x _ v u Q I rx ry ⟨rfl,q⟩
  ·cases zH r1;cases zH r2;cases (show v=Value.bool c from rx);cases (show u=Value.bool d from ry);exact PySem.wpAny_is_plain rfl ⟨.bl (c==d),H,I,(by cases c<;>cases d<;>rfl),q⟩
 |isnot=>
  rcases K4 (show isC xa ya (!·)=some b from e) with⟨rfl,rfl⟩|⟨c,d,rfl,rfl,rfl⟩
  ·cases zF r2;rw[Jq r1]at q;exact L2.op_notN pins s σ H x _ v u Q I rx ry ⟨rfl,q⟩
  ·cases zH r1;cases zH r2;cases (show v=Value.bool c from rx);cases (show u=Value.bool d from ry);exact PySem.wpAny_isNot_plain rfl ⟨.bl (!(c==d)),H,I,(by cases c<;>cases d<;>rfl),q⟩
theorem A0:∀{bs:List Bool}{us:List Value},Vals (bs.map V.bl) us->LSm.BoolsAre us bs
 | [],_,.nil=>.nil
 |b::bs,u::us,.cons r t=>by
  cases (show u=Value.bool b from r);exact .cons b (A0 t)
theorem F0{A:Around}{E:Value->Shared->Prop}{prog:Program}{w:World}{s:Shared}{l:Addr}{vs:List Value}{bs:List Bool}{Q:Value->Shared->Prop}(hh:A.handled=none)(hl:s.heap.IsList l vs.toArray)(hb:LSm.BoolsAre vs bs)
  (h:∀h' tk,(∀b x,s.heap.get? b=some x->h'.get? b=some x)->Q (.bool (bs.all id)) { s with heap:=h',toks:=tk }):wpAny (model prog w) A (call (.builtin "all") [.ref l]) Q E s:=by
 have hlt:l<s.heap.objs.size:=by obtain⟨_,e,_⟩:=hl;exact Heap.lt_size e
 refine call_all_walk (wpAny_pyIter_list hl ?_);refine⟨s.heap.objs.size,[s.heap.objs.size,l],[s.heap.objs.size],vs.toArray.size,_,_,λi=>(bs[i]?).getD true,rfl,Walks.list (A:=A.in1) hh _ l (wJ hlt) vs.toArray,
  ⟨⟨_,Heap.get?_push_size _ rfl,rfl,rfl⟩,hl.push _⟩,λi v s' Q' E' hP hQ=>?_,λh' tk hk=>?_⟩
 ·obtain⟨b,e,rfl⟩:=hb.get i v (by simpa using hP);simp only[e,Option.getD_some]at hQ;exact vH hQ
 ·have e:((List.range vs.toArray.size).all λi=>(bs[i]?).getD true)=bs.all id:=by
   rw[wB,hb.length];exact LSm.range_all bs
  rw[e];exact h h' tk (LSm.kept_iter hk)
theorem Qn:∀{xs:List V}{is:List Int},zx xs=some is->xs=is.map V.int
 | [],is,e=>by cases e;rfl
 | .int i::r,is,e=>by
  simp only[zx]at e;obtain⟨js,e1,rfl⟩:=Option.map_eq_some_iff.mp e;rw[Qn e1];rfl
 | .non::_,_,e=>by cases e
 | .bl _::_,_,e=>by cases e
 | .str _::_,_,e=>by cases e
 | .ref _::_,_,e=>by cases e
 | .byt _::_,_,e=>by cases e
 | .flt _::_,_,e=>by cases e
 | .ty _::_,_,e=>by cases e
theorem QO:∀{xs:List V}{is:List Bool},jZ xs=some is->xs=is.map V.bl
 | [],is,e=>by cases e;rfl
 | .bl i::r,is,e=>by
  simp only[jZ]at e;obtain⟨js,e1,rfl⟩:=Option.map_eq_some_iff.mp e;rw[QO e1];rfl
 | .non::_,_,e=>by cases e
 | .int _::_,_,e=>by cases e
 | .str _::_,_,e=>by cases e
 | .ref _::_,_,e=>by cases e
 | .byt _::_,_,e=>by cases e
 | .flt _::_,_,e=>by cases e
 | .ty _::_,_,e=>by cases e
theorem jF:∀{us:List Value}{ns:List Int},IntsAre us ns->Vals (ns.map V.int) us
 |_,_,.nil=>.nil
 |_,_,.cons n t r=>.cons ⟨_,rfl⟩ (jF r)
theorem L9(is:List Int):(is.map V.int).all flat=true:=by simp[flat]
theorem G0(is:List Bool):(is.map V.bl).all flat=true:=by simp[flat]
noncomputable def fnB:BF->Value
 | .len=>.builtin "len" | .all=>.builtin "all" | .max=>.builtin "max" | .min=>.builtin "min"
 | .list=>.type "list" | .int=>.type "int" | .bits=>.builtin "int.bit_length"
variable (X G) in
def qC0(f:BF):List V->Hp->VK->Prop:=λxs H Q=>∃φ h ws v h',Rl X.K G φ h H/\rvs φ ws xs/\qAj f ws h=.ok (v,h')/\∀φ' H' w,Ext φ φ'->Rl X.K G φ' h' H'->rv φ' v w->Q w H'
def DR(P:Program)(W:World)(h:Heap)(n:Nat)(u:Value)(d:PyData):Prop:=(∃as,Reads h u d as)/\d.depth<=n/\(d.showable=true->d.shown.length<=sizeLine->∃bs,ReadAtMost h d.depth bs/\ReprK P W bs h d.depth u d.shown)
def DRs(P:Program)(W:World)(h:Heap)(n:Nat)(us:List Value)(ds:List PyData):Prop:=(∃as,ReadsAll h us ds as)/\PyData.depthAll ds<=n/\(PyData.showableAll ds=true->(∀t∈PyData.shownAll ds,t.length<=sizeLine)->∃bs,ReadAtMost h (PyData.depthAll ds) bs/\ReprAllK P W bs h (PyData.depthAll ds) us (PyData.shownAll ds))
theorem DR.flat{P:Program}{W:World}{hp:Heap}{n:Nat}{u:Value}{d:PyData}(q:(∃as,Reads hp u d as)/\d.hasDict=false/\d.depth<=0):DR P W hp n u d:=by
 obtain⟨⟨as,q1⟩,q2,q3⟩:=q;exact⟨⟨as,q1⟩,by omega,λhs hz=>ReprK.of_reads q1 hs (λz=>by rw[q2]at z;cases z) hz⟩
theorem DRs.list{P:Program}{W:World}{hp:Heap}{n m:Nat}{p:Addr}{o:Obj}{its:List Value}{ds:List PyData}(q:DRs P W hp n its ds)(ho:hp.get? p=some o)(hc:o.cls=.type "list")(hd:o.data=.seq its.toArray m)(hs:PyData.showableAll ds=true)(hz:(listText (PyData.shownAll ds)).length<=sizeLine):
  ∃bs,ReadAtMost hp (PyData.depthAll ds) bs/\ReprAllK P W bs hp (PyData.depthAll ds) its (PyData.shownAll ds)/\p∉bs:=by
 obtain⟨⟨as,q1⟩,q2,q3⟩:=q;obtain⟨bs,hb,hk⟩:=q3 hs (λt ht=>Nat.le_trans (listText_mem_le ht) hz);exact⟨bs,hb,hk,not_mem_of_deeper (Reads.list ho hc hd (by simpa using q1)) (by simp only[PyData.depth];omega) hb⟩
theorem DRs.tuple{P:Program}{W:World}{hp:Heap}{n m:Nat}{p:Addr}{o:Obj}{its:List Value}{ds:List PyData}(q:DRs P W hp n its ds)(ho:hp.get? p=some o)(hc:o.cls=.type "tuple")(hd:o.data=.seq its.toArray m)(hs:PyData.showableAll ds=true)(hz:(tupleText (PyData.shownAll ds)).length<=sizeLine):
  ∃bs,ReadAtMost hp (PyData.depthAll ds) bs/\ReprAllK P W bs hp (PyData.depthAll ds) its (PyData.shownAll ds)/\p∉bs:=by
 obtain⟨⟨as,q1⟩,q2,q3⟩:=q;obtain⟨bs,hb,hk⟩:=q3 hs (λt ht=>Nat.le_trans (tupleText_mem_le ht) hz);exact⟨bs,hb,hk,not_mem_of_deeper (Reads.tuple ho hc hd (by simpa using q1)) (by simp only[PyData.depth];omega) hb⟩
theorem JB(hc:X.calm=true)(hu:X.A.units+8<cLine)(hgd:X.A.guards=some []):∀f,qr X (fnB f) (qC0 X G f):=by
 intro f pins s σ H xs us Q I r ⟨φ,h,ws,v,h',R,rw',e,k⟩;cases f with
 |len=>
  replace e:=QP e;obtain⟨x0,rfl,e⟩:=e;replace e:=jn e;obtain⟨a,rfl,e⟩:=e;split at e
  ·rename_i ys ey;cases e;cases rw' with
   |cons r1 t=>
    cases t;obtain⟨p,rfl,hp⟩:=qK r1;obtain⟨p',zs,hp',hs,rs⟩:=R.its ey;rw[hp]at hp';cases hp';refine L2.call_len_seq pins s σ H _ us Q I r ⟨p,zs,rfl,hs,?_⟩;rw[<-Paired.length rs];exact k φ H _ (.refl _) R rfl
  ·cases e
 |all=>
  replace e:=QP e;obtain⟨x0,rfl,e⟩:=e;replace e:=jn e;obtain⟨a,rfl,e⟩:=e;split at e
  ·rename_i ys ey;split at e
   ·rename_i is ei;cases e;cases rw' with
    |cons r1 t=>
     cases t;obtain⟨p,rfl,hp⟩:=qK r1;obtain⟨p',zs,hp',hs,rs⟩:=R.lst ey;rw[hp]at hp';cases hp';have hm:=QO ei;subst hm;have hz:=ZN (G0 is) rs;subst hz;obtain⟨its,rv',pl,_⟩:=I.list hs;obtain⟨u,rfl,ru⟩:=L2.vals1 r;cases ru;exact F0 (I.ok.hd hc) pl.isList (A0 rv') λh1 tk hk=>⟨.bl (is.all id),H,I.kept hk,rfl,k φ H _ (.refl _) R rfl⟩
   ·cases e
  ·cases e
 |max=>
  replace e:=two_inv e;obtain⟨x0,y0,rfl,e⟩:=e;replace e:=zE e;obtain⟨i,j,rfl,rfl,e⟩:=e;cases e;cases rw' with
  |cons r1 t=>
   cases t with
   |cons r2 t=>
    cases t;cases qB r1;cases qB r2;exact L2.call_max2 hc pins s σ H _ us Q I r ⟨_,_,rfl,k φ H _ (.refl _) R rfl⟩
 |min=>
  replace e:=two_inv e;obtain⟨x0,y0,rfl,e⟩:=e;replace e:=zE e;obtain⟨i,j,rfl,rfl,e⟩:=e;cases e;cases rw' with
  |cons r1 t=>
   cases t with
   |cons r2 t=>
    cases t;cases qB r1;cases qB r2;exact L2.call_min2 hc pins s σ H _ us Q I r ⟨_,_,rfl,k φ H _ (.refl _) R rfl⟩
 |bits=>
  replace e:=QP e;obtain⟨x0,rfl,e⟩:=e;split at e
  ·cases e;cases rw' with
   |cons r1 t=>
    cases t;cases qB r1;obtain⟨u,rfl,ru⟩:=L2.vals1 r;obtain⟨t,rfl⟩:=ru;rename_i j;exact call_int_bit_length ⟨.int ((Builtin.Int.intBits j:Nat):Int),H,I.tok _,⟨_,rfl⟩,k φ H _ (.refl _) R rfl⟩
  ·cases e
 |list=>
  replace e:=QP e;obtain⟨x0,rfl,e⟩:=e;replace e:=jn e;obtain⟨a,rfl,e⟩:=e;split at e
  ·rename_i ys ey;cases e;cases rw' with
   |cons r1 t=>
    cases t;obtain⟨p,rfl,hp⟩:=qK r1;obtain⟨p',zs,hp',hs,rs⟩:=R.its ey;rw[hp]at hp';cases hp';exact L2.call_list_of pins s σ H _ us Q I r ⟨p,zs,rfl,hs,λl hl=>k (φ++[l]) _ _ ⟨[l],rfl⟩ (R.newL hl rs) R.lastRef⟩
  ·cases e
 |int=>
  replace e:=QP e;obtain⟨x0,rfl,e⟩:=e;split at e
  ·cases e;cases rw' with
   |cons r1 t=>
    cases t;cases qB r1;exact L2.call_int1 pins s σ H _ us Q I r (.inl ⟨_,rfl,k φ H _ (.refl _) R rfl⟩)
  ·cases e;cases rw' with
   |cons r1 t=>
    cases t;cases zH r1;exact L2.call_int1 pins s σ H _ us Q I r (.inr ⟨_,rfl,k φ H _ (.refl _) R rfl⟩)
  ·cases e
end
open L2 (PW)
theorem zh{r:RV}{b:Bool}{h:AH}(e:asB r=.ok (b,h)):r=.ok (.bl b,h):=by
 unfold asB at e;obtain⟨⟨v,h1⟩,e1,e2⟩:=Res.bind_inv e;dsimp only at e2;split at e2
 ·cases e2;exact e1
 ·cases e2
theorem D1{r:RV}{b:Bool}{h:AH}(e:r=.ok (.bl b,h)):asB r=.ok (b,h):=by
 subst e;rfl
section
variable{X:Cx}{G:List Addr}{F:Nat->List V->AH->RV}{a b c:E}{as:Es}{ea eb ec:Expr}{es:List Expr}{pos:Pos}
theorem ZD{K:PySem.W.Frag}{σ:St}{H:Hp}{Q:Bool->Hp->Prop}(q:tT K G F a σ H Q):tE K G F a σ H (λx H'=>∃k,x=.bl k/\Q k H'):=by
 obtain⟨φ,h,σa,b,h',R,rs,e,k⟩:=q;exact⟨φ,h,σa,.bl b,h',R,rs,zh e,λφ' H' w x' R' r'=>⟨b,zH r',k φ' H' x' R'⟩⟩
theorem qQ(h:SE X G F ea a)(he:∀Qv,isTrue ea X.env Qv=(do let v <- Qv;standAt ea.pos;holding [v] (truthy v))):ST X G F ea a:=
 U4 (L2.pt_val h he) λ_ _ _ q=>ZD q
theorem Z7{op:COp}{σc:St}{H:Hp}{Q:VK}(q:tE X.K G F (.cmp op a b) σc H Q):L2.tOp (qCW X G op) (tE X.K G F a) (tE X.K G F b) σc H Q:=by
 obtain⟨φ,h,σ,v,h',R,rs,e,k⟩:=q;unfold ev at e;obtain⟨⟨x,h1⟩,e1,e⟩:=Res.bind_inv e;obtain⟨⟨y,h2⟩,e2,e⟩:=Res.bind_inv e;refine QA R rs e1 e2 λφ2 H2 xc yc x2 R2 r1 r2=>?_;unfold G5 at e;dsimp only at e;split at e
 ·rename_i t et;cases e;exact⟨φ2,_,x,y,t,R2,r1,r2,et,k φ2 H2 _ x2 R2 rfl⟩
 ·cases e
theorem Z3{op:COp}(hu:X.A.units+8<cLine)(ha:SE X G F ea a)(hb:SE X G F eb b)(hm:behindInMarks (opC op) eb=false):SE X G F (.Compare ea [opC op] [eb] pos) (.cmp op a b):=
 qh (L2.pe_cmpR (jT hu op) ha hb hm) λ_ _ _=>Z7
theorem qBu{op:COp}(hu:X.A.units+8<cLine)(ha:SE X G F ea a)(hb:SE X G F eb b)(hm:behindInMarks (opC op) eb=false):ST X G F (.Compare ea [opC op] [eb] pos) (.cmp op a b):=
 U4 (L2.pt_cmpR (jT hu op) ha hb hm) λ_ _ _ q=>Z7 (ZD q)
theorem Jp{o1 o2:COp}{σc:St}{H:Hp}{Q:VK}(q:tE X.K G F (.cmp2 o1 o2 a b c) σc H Q):L2.tChain (qCW X G o1) (qCW X G o2) (tE X.K G F a) (tE X.K G F b) (tE X.K G F c) σc H Q:=by
 obtain⟨φ,h,σ,v,h',R,rs,e,k⟩:=q;unfold ev at e;obtain⟨⟨x,h1⟩,e1,e⟩:=Res.bind_inv e;obtain⟨⟨y,h2⟩,e2,e⟩:=Res.bind_inv e;refine QA R rs e1 e2 λφ2 H2 xc yc x2 R2 r1 r2=>?_;dsimp only at e;split at e
 ·rename_i et;refine⟨φ2,_,x,y,true,R2,r1,r2,et,true,rfl,?_⟩;rw[if_pos rfl];obtain⟨⟨z,h3⟩,e3,e⟩:=Res.bind_inv e;refine⟨φ2,_,σ,z,h3,R2,rst.mono x2 rs,e3,λφ3 H3 zc x3 R3 r3=>?_⟩;unfold G5 at e;dsimp only at e;split at e
  ·rename_i t et;cases e;exact⟨φ3,_,y,z,t,R3,rv.mono x3 r2,r3,et,k φ3 H3 _ (x2.trans x3) R3 rfl⟩
  ·cases e
 ·rename_i et;cases e;refine⟨φ2,_,x,y,false,R2,r1,r2,et,false,rfl,?_⟩;rw[if_neg (by decide)];exact k φ2 H2 _ x2 R2 rfl
 ·cases e
theorem X7{o1 o2:COp}(hu:X.A.units+8<cLine)(ha:SE X G F ea a)(hb:SE X G F eb b)(hc:SE X G F ec c)(hm:lastMarks [opC o1,opC o2] [eb,ec]=false):SE X G F (.Compare ea [opC o1,opC o2] [eb,ec] pos) (.cmp2 o1 o2 a b c):=
 qh (L2.pe_chain (jT hu o1) (jT hu o2) ha hb hc hm) λ_ _ _=>Jp
theorem W4{o1 o2:COp}(hu:X.A.units+8<cLine)(ha:SE X G F ea a)(hb:SE X G F eb b)(hc:SE X G F ec c)(hm:lastMarks [opC o1,opC o2] [eb,ec]=false):ST X G F (.Compare ea [opC o1,opC o2] [eb,ec] pos) (.cmp2 o1 o2 a b c):=
 U4 (L2.pt_chain (jT hu o1) (jT hu o2) ha hb hc hm) λ_ _ _ q=>Jp (ZD q)
theorem y8{σc:St}{H:Hp}{Q:VK}(q:tE X.K G F (.and a b) σc H Q):L2.tAndV (tE X.K G F a) (tE X.K G F b) σc H Q:=by
 obtain⟨φ,h,σ,v,h',R,rs,e,k⟩:=q;unfold ev at e;obtain⟨⟨x,h1⟩,e1,e⟩:=Res.bind_inv e;refine⟨φ,h,σ,.bl x,h1,R,rs,zh e1,λφ1 H1 w x1 R1 r1=>⟨x,zH r1,?_⟩⟩;dsimp only at e;cases x with
 |true=>
  rw[if_pos rfl]at e ⊢;exact⟨φ1,h1,σ,v,h',R1,rst.mono x1 rs,e,λφ2 H2 w2 x2 R2 r2=>k φ2 H2 w2 (x1.trans x2) R2 r2⟩
 |false=>
  rw[if_neg (by decide)]at e ⊢;cases e;exact k φ1 H1 _ x1 R1 rfl
theorem qA2{σc:St}{H:Hp}{Q:VK}(q:tE X.K G F (.or a b) σc H Q):L2.tOrV (tE X.K G F a) (tE X.K G F b) σc H Q:=by
 obtain⟨φ,h,σ,v,h',R,rs,e,k⟩:=q;unfold ev at e;obtain⟨⟨x,h1⟩,e1,e⟩:=Res.bind_inv e;refine⟨φ,h,σ,.bl x,h1,R,rs,zh e1,λφ1 H1 w x1 R1 r1=>⟨x,zH r1,?_⟩⟩;dsimp only at e;cases x with
 |false=>
  rw[if_neg (by decide)]at e ⊢;exact⟨φ1,h1,σ,v,h',R1,rst.mono x1 rs,e,λφ2 H2 w2 x2 R2 r2=>k φ2 H2 w2 (x1.trans x2) R2 r2⟩
 |true=>
  rw[if_pos rfl]at e ⊢;cases e;exact k φ1 H1 _ x1 R1 rfl
theorem qAp{σc:St}{H:Hp}{Q:Bool->Hp->Prop}(q:tT X.K G F (.and a b) σc H Q):L2.tAnd (tT X.K G F a) (tT X.K G F b) σc H Q:=by
 obtain⟨φ,h,σ,t,h',R,rs,e,k⟩:=q;have e:=zh e;unfold ev at e;obtain⟨⟨x,h1⟩,e1,e⟩:=Res.bind_inv e;refine⟨φ,h,σ,x,h1,R,rs,e1,λφ1 H1 x1 R1=>?_⟩;dsimp only at e;cases x with
 |true=>
  rw[if_pos rfl]at e ⊢;exact⟨φ1,h1,σ,t,h',R1,rst.mono x1 rs,D1 e,λφ2 H2 x2 R2=>k φ2 H2 (x1.trans x2) R2⟩
 |false=>
  rw[if_neg (by decide)]at e ⊢;cases e;exact k φ1 H1 x1 R1
theorem qDT{σc:St}{H:Hp}{Q:Bool->Hp->Prop}(q:tT X.K G F (.or a b) σc H Q):L2.tOr (tT X.K G F a) (tT X.K G F b) σc H Q:=by
 obtain⟨φ,h,σ,t,h',R,rs,e,k⟩:=q;have e:=zh e;unfold ev at e;obtain⟨⟨x,h1⟩,e1,e⟩:=Res.bind_inv e;refine⟨φ,h,σ,x,h1,R,rs,e1,λφ1 H1 x1 R1=>?_⟩;dsimp only at e;cases x with
 |false=>
  rw[if_neg (by decide)]at e ⊢;exact⟨φ1,h1,σ,t,h',R1,rst.mono x1 rs,D1 e,λφ2 H2 x2 R2=>k φ2 H2 (x1.trans x2) R2⟩
 |true=>
  rw[if_pos rfl]at e ⊢;cases e;exact k φ1 H1 x1 R1
variable (X G F) in
abbrev SW(e:Expr)(a:E):Prop:=PW X e (tT X.K G F a)
theorem qA6{e:Expr}{t t':TT}(h:PW X e t)(w:∀σ H Q,t' σ H Q->t σ H Q):PW X e t':=λwh pins s σ H Q I q=>h wh pins s σ H Q I (w σ H Q q)
theorem qB9{jO:List Expr}(ha:SE X G F ea a)(hb:SE X G F (.BoolOp .And (eb::jO) pos) b):SE X G F (.BoolOp .And (ea::eb::jO) pos) (.and a b):=qh (L2.pe_and ha hb) λ_ _ _=>y8
theorem qCt{jO:List Expr}(ha:SE X G F ea a)(hb:SE X G F (.BoolOp .Or (eb::jO) pos) b):SE X G F (.BoolOp .Or (ea::eb::jO) pos) (.or a b):=qh (L2.pe_or ha hb) λ_ _ _=>qA2
theorem qBH{jO:List Expr}(ha:ST X G F ea a)(hb:SW X G F (.BoolOp .And (eb::jO) pos) b):SW X G F (.BoolOp .And (ea::eb::jO) pos) (.and a b):=qA6 (L2.pw_and ha hb) λ_ _ _=>qAp
theorem qCb{jO:List Expr}(ha:ST X G F ea a)(hb:SW X G F (.BoolOp .Or (eb::jO) pos) b):SW X G F (.BoolOp .Or (ea::eb::jO) pos) (.or a b):=qA6 (L2.pw_or ha hb) λ_ _ _=>qDT
theorem qBW(ha:SE X G F ea a):SE X G F (.UnaryOp .Not ea pos) (.not a):=by
 refine qh (L2.pe_not ha) λσc H Q q=>?_;obtain⟨φ,h,σ,v,h',R,rs,e,k⟩:=q;unfold ev at e;obtain⟨⟨x,h1⟩,e1,e⟩:=Res.bind_inv e;cases e;exact⟨φ,h,σ,.bl x,_,R,rs,zh e1,λφ1 H1 w x1 R1 r1=>⟨x,zH r1,k φ1 H1 _ x1 R1 rfl⟩⟩
theorem qB6(ha:ST X G F ea a):ST X G F (.UnaryOp .Not ea pos) (.not a):=by
 refine U4 (L2.pt_not ha) λσc H Q q=>?_;obtain⟨φ,h,σ,t,h',R,rs,e,k⟩:=q;have e:=zh e;unfold ev at e;obtain⟨⟨x,h1⟩,e1,e⟩:=Res.bind_inv e;cases e;exact⟨φ,h,σ,x,_,R,rs,e1,λφ1 H1 x1 R1=>k φ1 H1 x1 R1⟩
theorem qCD(hc:ST X G F ec c)(ha:SE X G F ea a)(hb:SE X G F eb b):SE X G F (.IfExp ec ea eb pos) (.ite c a b):=by
 refine qh (L2.pe_ifExp hc ha hb) λσc H Q q=>?_;obtain⟨φ,h,σ,v,h',R,rs,e,k⟩:=q;unfold ev at e;obtain⟨⟨x,h1⟩,e1,e⟩:=Res.bind_inv e;refine⟨φ,h,σ,x,h1,R,rs,e1,λφ1 H1 x1 R1=>?_⟩;dsimp only at e;cases x with
 |true=>
  rw[if_pos rfl]at e ⊢;exact⟨φ1,h1,σ,v,h',R1,rst.mono x1 rs,e,λφ2 H2 w2 x2 R2 r2=>k φ2 H2 w2 (x1.trans x2) R2 r2⟩
 |false=>
  rw[if_neg (by decide)]at e ⊢;exact⟨φ1,h1,σ,v,h',R1,rst.mono x1 rs,e,λφ2 H2 w2 x2 R2 r2=>k φ2 H2 w2 (x1.trans x2) R2 r2⟩
theorem qCF(hc:ST X G F ec c)(ha:ST X G F ea a)(hb:ST X G F eb b):ST X G F (.IfExp ec ea eb pos) (.ite c a b):=by
 intro pins s σc H Q I q;obtain⟨φ,h,σ,t,h',R,rs,e,k⟩:=q;have e:=zh e;unfold ev at e;obtain⟨⟨x,h1⟩,e1,e⟩:=Res.bind_inv e;refine isTrue_IfExp (L2.thn (hc pins s σc H (λz H1=>(z=true->tT X.K G F a σc H1 Q)/\(z=false->tT X.K G F b σc H1 Q)) I ⟨φ,h,σ,x,h1,R,rs,e1,λφ1 H1 x1 R1=>?_⟩) λz s1 ⟨H1,I1,q1,q2⟩=>?_)
 ·dsimp only at e;cases x with
  |true=>
   rw[if_pos rfl]at e;exact⟨λ_=>⟨φ1,h1,σ,t,h',R1,rst.mono x1 rs,D1 e,λφ2 H2 x2 R2=>k φ2 H2 (x1.trans x2) R2⟩,λz=>nomatch z⟩
  |false=>
   rw[if_neg (by decide)]at e;exact⟨(λz=>nomatch z),λ_=>⟨φ1,h1,σ,t,h',R1,rst.mono x1 rs,D1 e,λφ2 H2 x2 R2=>k φ2 H2 (x1.trans x2) R2⟩⟩
 ·cases z with
  |true=>exact ha pins s1 σc H1 Q I1 (q1 rfl)
  |false=>exact hb pins s1 σc H1 Q I1 (q2 rfl)
noncomputable def qS:Expr->Bool
 | .Starred ..=>false
 |_=>true
theorem qC{e:Expr}{env:Env}(h:qS e=true):starEach (e::es) env=(false,eval e env)::starEach es env:=by
 cases e<;>first|rfl|cases h
theorem zC{env:Env}:∀{es:List Expr},es.all qS=true->(backTo pos (starEach es env)).any (·.1)=false
 | [],_=>rfl
 |e::es,h=>by
  simp only[List.all_cons,Bool.and_eq_true]at h;rw[qC h.1];show (false||(backTo pos (starEach es env)).any (·.1))=false;rw[zC h.2];rfl
theorem S1:SA X G F [] .nil:=by
 refine X5 L2.pa_nil λσc H Q q=>?_;obtain⟨φ,h,σ,v,h',R,rs,e,k⟩:=q;unfold evs at e;cases e;exact k φ H [] (.refl _) R .nil
theorem Jf(hn:qS ea=true)(ha:SE X G F ea a)(hr:SA X G F es as):SA X G F (ea::es) (.cons a as):=by
 refine X5 (L2.pa_cons ha hr (qC hn)) λσc H Q q=>?_;obtain⟨φ,h,σ,v,h',R,rs,e,k⟩:=q;unfold evs at e;obtain⟨⟨x,h1⟩,e1,e⟩:=Res.bind_inv e;obtain⟨⟨xs,h2⟩,e2,e⟩:=Res.bind_inv e;cases e;exact⟨φ,h,σ,x,h1,R,rs,e1,λφ1 H1 w x1 R1 r1=>⟨φ1,h1,σ,xs,_,R1,rst.mono x1 rs,e2,λφ2 H2 ws x2 R2 r2=>k φ2 H2 _ (x1.trans x2) R2 (.cons (rv.mono x2 r1) r2)⟩⟩
theorem qCL(h:SA X G F es as):SE X G F (.List es pos) (.lst as):=by
 refine qh (L2.pe_lst h) λσc H Q q=>?_;obtain⟨φ,h,σ,v,h',R,rs,e,k⟩:=q;unfold ev at e;obtain⟨⟨xs,h1⟩,e1,e⟩:=Res.bind_inv e;refine⟨φ,h,σ,xs,h1,R,rs,e1,λφ1 H1 ws x1 R1 r1=>?_⟩;dsimp only at e;split at e
 ·rename_i hl;cases e;refine⟨by rw[<-Paired.length r1];exact Nat.le_trans hl QM,λp hp=>k (φ1++[p]) _ _ (x1.trans ⟨[p],rfl⟩) (R1.newL hp r1) R1.lastRef⟩
 ·cases e
theorem P5:SE X G F (.Dict [] [] pos) .dnew:=by
 intro pins s σc H Q I q;obtain⟨φ,h,σ,v,h',R,rs,e,k⟩:=q;unfold ev at e;cases e;have hbig:sysModules<s.heap.objs.size:=wX (by decide) (I.mod.glob.keeps I.bk).lt;have hn:=I.hok.fresh (Nat.le_refl s.heap.objs.size);exact wpAny_Dict_empty ⟨.ref s.heap.objs.size,_,I.laid (a:=s.heap.objs.size) (o:=.dK []) (t':=s.toks) (λ_ _ q=>Heap.get?_push_of_some _ q) (Nat.le_refl _)
  ⟨Nat.zero_le _,beq_eq_false_iff_ne.mpr (Ne.symm (wJ hbig)),[],.nil,Heap.DictOf.new s.heap⟩,rfl,
  k (φ++[s.heap.objs.size]) _ _ ⟨[s.heap.objs.size],rfl⟩ (R.new hn (o:=.ob (.dct [])) qF) R.lastRef⟩
theorem j9 {x1}(h:SA X G F es as):SE X G F (.Tuple es x1 pos) (.tup as):=by
 refine qh (L2.pe_tup h) λσc H Q q=>?_;obtain⟨φ,h,σ,v,h',R,rs,e,k⟩:=q;unfold ev at e;obtain⟨⟨xs,h1⟩,e1,e⟩:=Res.bind_inv e;refine⟨φ,h,σ,xs,h1,R,rs,e1,λφ1 H1 ws x1 R1 r1=>?_⟩;dsimp only at e;split at e
 ·rename_i hl;cases e;refine⟨by rw[<-Paired.length r1];exact Nat.le_trans hl QM,λp hp=>k (φ1++[p]) _ _ (x1.trans ⟨[p],rfl⟩) (R1.newT hp r1) R1.lastRef⟩
 ·cases e
variable (G F) in
noncomputable def spF(K:PySem.W.Frag)(f:Nat):L2.Sp:=λvs H Q _=>∃φ h ws v h',Rl K G φ h H/\rvs φ ws vs/\F f ws h=.ok (v,h')/\∀φ' H' w,Ext φ φ'->Rl K G φ' h' H'->rv φ' v w->Q w H'
variable (X G F) in
structure FnS(f:Nat)(x:Str):Prop where
 ex:∃k fa fd ps,L2.FnOk X.prog X.w X.K X.mg X.base L2.CX0 k fa fd ps (spF G F X.K f)/\L2.Room k X.A/\X.mg x=some (.ref fa)/\PySem.W.keepIn X.K (.ref fa)=true/\L2.Binds X.K fd ps []/\L2.Room k X.A.in1
theorem J1{f:Nat}{σc:St}{H:Hp}{Q:VK}(q:tE X.K G F (.call f as) σc H Q):L2.tCall (spF G F X.K f) [] L2.E0 (tL X.K G F as) σc H Q:=by
 obtain⟨φ,h,σ,v,h',R,rs,e,k⟩:=q;unfold ev at e;obtain⟨⟨xs,h1⟩,e1,e⟩:=Res.bind_inv e;refine⟨φ,h,σ,xs,h1,R,rs,e1,λφ1 H1 ws x1 R1 r1=>?_⟩;have e:F f xs h1=.ok (v,h'):=by
  have e:(F f xs h1).nx=.ok (v,h'):=e;revert e;generalize F f xs h1=r;cases r<;>intro e<;>first|exact e|cases e
 refine⟨φ1,h1,xs,v,h',R1,by rw[List.append_nil];exact r1,e,λφ2 H2 w x2 R2 r2=>k φ2 H2 w (x1.trans x2) R2 r2⟩
theorem QB{f:Nat}{x:Str}{p:Pos}(hf:FnS X G F f x)(hg:L2.Gl X x)(hd:(x==("__debug__":Str))=false)(hn:qS ea=true)(hs:es.all qS=true)(ha:SA X G F (ea::es) as):SE X G F (.Call (.Name x p) (ea::es) [] pos) (.call f as):=by
 obtain⟨k,fa,fd,ps,h1,h2,h3,h4,h5,_⟩:=hf.ex;exact qh (L2.pe_call h1 h2 hg h3 h4 h5 .nil L2.pass0 ha hd (qC hn) (zC hs)) λ_ _ _=>J1
theorem V5{f:Nat}{x:Str}{p:Pos}(hf:FnS X G F f x)(hg:L2.Gl X x)(hd:(x==("__debug__":Str))=false):SE X G F (.Call (.Name x p) [] [] pos) (.call f .nil):=by
 obtain⟨k,fa,fd,ps,h1,h2,h3,h4,h5,_⟩:=hf.ex;refine qh (L2.pe_call0 h1 h2 hg h3 h4 h5 .nil L2.pass0 hd) λσc H Q q=>?_;obtain⟨φ,h,σ,vs,h',R,rs,e,k⟩:=J1 q;unfold evs at e;cases e;exact k φ H [] (.refl _) R .nil
theorem j6{f:BF}{σc:St}{H:Hp}{Q:VK}(q:tE X.K G F (.blt f as) σc H Q):L2.tCB (qC0 X G f) (tL X.K G F as) σc H Q:=by
 obtain⟨φ,h,σ,v,h',R,rs,e,k⟩:=q;unfold ev at e;obtain⟨⟨xs,h1⟩,e1,e⟩:=Res.bind_inv e;exact⟨φ,h,σ,xs,h1,R,rs,e1,λφ1 H1 ws x1 R1 r1=>⟨φ1,h1,xs,v,h',R1,r1,e,λφ2 H2 w x2 R2 r2=>k φ2 H2 w (x1.trans x2) R2 r2⟩⟩
theorem qA7{f:BF}{x:Str}{p:Pos}(hc:X.calm=true)(hu:X.A.units+8<cLine)(hgd:X.A.guards=some [])(hg:L2.Gl X x)(hm:X.mg x=none)(hv:bootBuiltins x=some (fnB f))(hn:qS ea=true)(hs:es.all qS=true)(ha:SA X G F (ea::es) as)
  (h1:x≠"__name__") (h2:(x==("__debug__":Str))=false):SE X G F (.Call (.Name x p) (ea::es) [] pos) (.blt f as):=by
 have rule:=JB (G:=G) hc hu hgd f;cases f
 all_goals first
  |exact qh (L2.pe_callB rule hg hm hv ha h1 h2 (qC hn) (zC hs)) λ_ _ _=>j6
  |exact qh (L2.pe_callTy rule hg hm hv ha h1 h2 (qC hn) (zC hs)) λ_ _ _=>j6
theorem n8{apos cpos:Pos}(hc:X.calm=true)(hu:X.A.units+8<cLine)(hgd:X.A.guards=some [])(hbase:attributeBase ea "bit_length" X.env (eval ea X.env)=eval ea X.env)(hline:(apos.endLine==cpos.line)=true)(ha:SE X G F ea a):
  SE X G F (.Call (.Attribute ea "bit_length" apos) [] [] cpos) (.blt .bits (.cons a .nil)):=by
 have rule:L2.MtR X "int.bit_length" (λx xs H Q=>∃i,x=.int i/\xs=[]/\qC0 X G .bits [.int i] H Q):=λpins s σ H x xs v us Q I rx rs q=>by
  obtain⟨i,rfl,rfl,q⟩:=q;cases rs;exact JB (G:=G) hc hu hgd .bits pins s σ H [.int i] [v] Q I (.cons rx .nil) q
 refine qh (L2.pe_bm0 PySem.F.plainAttrs_int PyProof.Rows.slot_int_bit_length PyProof.Rows.type_int_bit_length rule ha hbase hline) λσc H Q q=>?_;obtain⟨φ,h,σ,v,h',R,rs,e,k⟩:=q;unfold ev at e;obtain⟨⟨xs,h1⟩,e1,e2⟩:=Res.bind_inv e;unfold evs evs at e1;obtain⟨⟨x,h2⟩,e3,e4⟩:=Res.bind_inv e1;cases e4;replace e2:qAj .bits [x] h1=.ok (v,h'):=e2;cases x with
 |int i=>exact⟨φ,h,σ,_,_,R,rs,e3,λφ1 H1 w x1 R1 r1=>by
   cases qB r1;exact⟨rfl,i,rfl,rfl,φ1,_,[.int i],v,h',R1,.cons rfl .nil,e2,λφ2 H2 w x2 R2 r2=>k φ2 H2 w (x1.trans x2) R2 r2⟩⟩
 |_=>cases e2
noncomputable def ZW(t:String):Bool:=t=="int"||t=="bool"||t=="list"||t=="tuple"||t=="str"||t=="dict"
theorem QH(K:PySem.W.Frag):∀{t c:String},(t="NoneType"\/t="bool"\/t="int"\/t="str"\/t="list"\/t="tuple"\/t="dict")->ZW c=true->PySem.W.kitOne K (.type t) (.type c)=some (ze t c):=by
 intro t c ht hc;have hc':c="int"\/c="bool"\/c="list"\/c="tuple"\/c="str"\/c="dict":=by
  simp only[ZW,wq,beq_iff_eq]at hc;rcases hc with((((h|h)|h)|h)|h)|h<;>simp[h]
 rcases ht with rfl|rfl|rfl|rfl|rfl|rfl|rfl<;>rcases hc' with rfl|rfl|rfl|rfl|rfl|rfl<;>kernel_rfl
variable (X G) in
def qE7(c:String):List V->Hp->VK->Prop:=λxs H Q=>∃φ h xa x t,xs=[x,.ty c]/\Rl X.K G φ h H/\rv φ xa x/\zf h xa=some t/\Q (.bl (ze t c)) H
theorem Q9{c:String}(hc:ZW c=true):qr X (.builtin "isinstance") (qE7 X G c):=by
 intro pins s σ H xs us Q I r ⟨φ,h,xa,x,t,e,R,rx,ht,q⟩;subst e;obtain⟨u,u2,rfl,r1,r2⟩:=L2.vals2 r;cases (show u2=Value.type c from r2);have fin:∀tk,EP X pins σ Q (.bool (ze t c)) { s with toks:=tk }:=λtk=>⟨.bl (ze t c),H,I.tok tk,rfl,q⟩
 cases xa with
 |non=>cases zF rx;cases r1;cases ht;exact PySem.W.kia_one PySem.W.kitx_none I.kIn True.intro (QH _ (by simp) hc) (λz=>nomatch z) fin
 |bl i=>cases zH rx;cases r1;cases ht;exact PySem.W.kia_one PySem.W.kitx_bool I.kIn True.intro (QH _ (by simp) hc) (λz=>nomatch z) fin
 |int i=>cases qB rx;obtain⟨t',rfl⟩:=r1;cases ht;exact PySem.W.kia_one PySem.W.kitx_int I.kIn True.intro (QH _ (by simp) hc) (λz=>nomatch z) fin
 |str i=>cases zP rx;obtain⟨t',rfl⟩:=r1;cases ht;exact PySem.W.kia_one PySem.W.kitx_str I.kIn True.intro (QH _ (by simp) hc) (λz=>nomatch z) fin
 |ref i=>
  obtain⟨p,rfl,hp⟩:=qK rx;cases r1;cases ey:h[i]? with
  |none=>rw[show zf h (.ref i)=none by simp only[zf,ey]]at ht;cases ht
  |some o=>
   cases o with
   |lst fz ys=>
    rw[show zf h (.ref i)=some "list" by simp only[zf,ey]]at ht;cases ht;obtain⟨p',zs,hp',hs,rs⟩:=R.lst (i:=i) (xs:=ys) (by unfold qP;rw[ey]);rw[hp]at hp';cases hp';obtain⟨its,_,pl,_⟩:=I.list hs;obtain⟨o,ho,hcl,_⟩:=pl.isList;exact PySem.W.kia_one PySem.W.kitx_list I.kIn ⟨o,ho,hcl⟩ (QH _ (by simp) hc) (λz=>nomatch z) fin
   |tup ys=>
    rw[show zf h (.ref i)=some "tuple" by simp only[zf,ey]]at ht;cases ht;obtain⟨p',zs,hp',hs,rs⟩:=R.tup (i:=i) (xs:=ys) (by unfold qW;rw[ey]);rw[hp]at hp';cases hp';obtain⟨its,_,pl,_⟩:=I.tuple hs;obtain⟨o,ho,hcl,_⟩:=pl;exact PySem.W.kia_one PySem.W.kitx_tuple I.kIn ⟨o,ho,hcl⟩ (QH _ (by simp) hc) (λz=>nomatch z) fin
   |ob ks=>
    cases ks with
    |exn c=>rw[show zf h (.ref i)=none by simp only[zf,ey]]at ht;cases ht
    |dct kvs=>
     rw[show zf h (.ref i)=some "dict" by simp only[zf,ey]]at ht;cases ht;obtain⟨p',hp',hs⟩:=R.at ey;rw[hp]at hp';cases hp';obtain⟨_,_,vs,_,o,es,ep,h1,h2,_⟩:=(show L2.ObjOk X.prog X.w H s.heap p (.dK (kvs.map kk)) from I.hok p _ hs)
     exact PySem.W.kia_one PySem.W.kitx_dict I.kIn ⟨o,h1,h2.1⟩ (QH _ (by simp) hc) (λz=>nomatch z) fin
 |_=>cases ht
theorem qCK{c:String}{xc:Str}{p pc:Pos}(hc:ZW c=true)(hg:L2.Gl X "isinstance")(hm:X.mg "isinstance"=none)(hgc:L2.Gl X xc)(hmc:X.mg xc=none)(hvc:bootBuiltins xc=some (.type c))(hn1:xc≠"__name__")(hn2:(xc==("__debug__":Str))=false)
  (hn:qS ea=true) (ha:SE X G F ea a):SE X G F (.Call (.Name "isinstance" p) [ea,.Name xc pc] [] pos) (.isi a [c]):=by
 refine qh (L2.pe_callB (Q9 (G:=G) hc) hg hm PyProof.Rows.boot_isinstance (L2.pa_cons ha (L2.pa_cons (L2.pe_bltn (v:=.ty c) hgc hmc hvc rfl hn1 hn2) L2.pa_nil rfl) (qC hn)) (by decide) (by decide) (qC hn) rfl) λσc H Q q=>?_;obtain⟨φ,h,σ,v,h',R,rs,e,k⟩:=q;unfold ev at e;obtain⟨⟨x,h1⟩,e1,e⟩:=Res.bind_inv e;refine⟨φ,h,σ,x,h1,R,rs,e1,λφ1 H1 w x1 R1 r1=>?_⟩;dsimp only at e;split at e
 ·rename_i t et;cases e;refine⟨φ1,_,x,w,t,rfl,R1,r1,et,?_⟩;have:=k φ1 H1 (.bl ([c].any (ze t))) x1 R1 rfl;simpa using this
 ·cases e
noncomputable def QT:Expr->Bool
 | .Slice ..=>false
 |_=>true
theorem E8{e:Expr}(h:QT e=true):L2.PlainIx e:=by
 intro o i;cases e<;>first|rfl|cases h
theorem qBK(hb':QT eb=true)(ha:SE X G F ea a)(hb:SE X G F eb b):SE X G F (.Subscript ea eb pos) (.idx a b):=by
 refine qh (L2.pe_ix (L2.ix_list.or L2.ix_tup) ha hb (E8 hb')) λσc H Q q=>?_;obtain⟨φ,h,σ,v,h',R,rs,e,k⟩:=q;unfold ev at e;obtain⟨⟨x,h1⟩,e1,e⟩:=Res.bind_inv e;obtain⟨⟨y,h2⟩,e2,e⟩:=Res.bind_inv e;refine QA R rs e1 e2 λφ2 H2 xc yc x2 R2 r1 r2=>?_;cases x with
 |ref p=>
  cases y with
  |int i=>
   dsimp only at e;split at e
   ·rename_i xs ex;split at e
    ·rename_i w ew;cases e;obtain⟨p',zs,hp',hs,rs'⟩:=R2.its ex;obtain⟨q,rfl,hq⟩:=qK r1;rw[hp']at hq;cases hq;cases qB r2;obtain⟨j,ej,ew⟩:=Option.bind_eq_some_iff.mp ew;obtain⟨w',hw',rw'⟩:=qE rs' ew;have hat:L2.atI zs i=some w':=by
      unfold L2.atI;rw[<-Paired.length rs'];exact Option.bind_eq_some_iff.mpr ⟨j,ej,hw'⟩
     rcases hs with hs|hs
     ·exact .inl ⟨_,zs,i,w',rfl,rfl,hs,hat,k φ2 H2 w' x2 R2 rw'⟩
     ·exact .inr ⟨_,zs,i,w',rfl,rfl,hs,hat,k φ2 H2 w' x2 R2 rw'⟩
    ·cases e
   ·cases e
  |_=>cases e
 |_=>cases e
theorem Qp{φ:List Addr}{xs ys:List V}(r:rvs φ xs ys)(lo hi:Option Int):rvs φ (L2.cutV xs lo hi) (L2.cutV ys lo hi):=by
 unfold L2.cutV;rw[Paired.length r];exact qy _ (jB _ r)
variable (X G F) in
def SO(o:Option Expr)(as:Es):Prop:=L2.PO X o λσc H Q=>∃φ h σ is h',Rl X.K G φ h H/\rst φ σ σc/\(∃vs,evs F as σ h=.ok (vs,h')/\zx vs=some is)/\∀φ' H',Ext φ φ'->Rl X.K G φ' h' H'->Q is.head? H'
theorem qAO:SO X G F none .nil:=by
 intro pins s σc H Q I q;obtain⟨φ,h,σ,is,h',R,rs,⟨vs,e,ei⟩,k⟩:=q;unfold evs at e;cases e;cases ei;exact L2.po_none pins s σc H Q I (k φ H (.refl _) R)
theorem m4(ha:SE X G F ea a):SO X G F (some ea) (.cons a .nil):=by
 intro pins s σc H Q I q;obtain⟨φ,h,σ,is,h',R,rs,⟨vs,e,ei⟩,k⟩:=q;unfold evs at e;obtain⟨⟨x,h1⟩,e1,e⟩:=Res.bind_inv e;unfold evs at e;cases e;refine L2.po_some ha pins s σc H Q I ⟨φ,h,σ,x,_,R,rs,e1,λφ1 H1 w x1 R1 r1=>?_⟩;have hm:=Qn ei;cases is with
 |nil=>cases hm
 |cons i r=>
  simp only[List.map_cons,List.cons.injEq]at hm;obtain⟨rfl,_⟩:=hm;cases qB r1;exact⟨i,rfl,k φ1 H1 x1 R1⟩
theorem qCE{lo hi:Option Expr}{al ah:Es}{p2:Pos}(ha:SE X G F ea a)(hl:SO X G F lo al)(hh:SO X G F hi ah):SE X G F (.Subscript ea (.Slice lo hi none p2) pos) (.sl a al ah):=by
 refine qh (L2.pe_slice (L2.SlR.or L2.sl_list L2.sl_tup) ha hl hh) λσc H Q q=>?_;obtain⟨φ,h,σ,v,h',R,rs,e,k⟩:=q;unfold ev at e;obtain⟨⟨x,h1⟩,e1,e⟩:=Res.bind_inv e;obtain⟨⟨l,h2⟩,e2,e⟩:=Res.bind_inv e;obtain⟨⟨u,h3⟩,e3,e⟩:=Res.bind_inv e;cases x with
 |ref p=>
  cases eil:zx l with
  |none=>dsimp only at e;rw[eil]at e;cases e
  |some il=>
   cases eiu:zx u with
   |none=>dsimp only at e;rw[eil,eiu]at e;cases e
   |some iu=>
    dsimp only at e;rw[eil,eiu]at e;dsimp only at e;split at e
    ·rename_i xs ex;cases e;refine⟨φ,h,σ,_,h1,R,rs,e1,λφ1 H1 w x1 R1 r1=>?_⟩;refine⟨φ1,h1,σ,il,h2,R1,rst.mono x1 rs,⟨l,e2,eil⟩,λφ2 H2 x2 R2=>?_⟩;refine⟨φ2,h2,σ,iu,h3,R2,rst.mono (x1.trans x2) rs,⟨u,e3,eiu⟩,λφ3 H3 x3 R3=>?_⟩;obtain⟨p',zs,hp',hs,rs'⟩:=R3.lst ex;obtain⟨q,rfl,hq⟩:=qK (rv.mono (x2.trans x3) r1);rw[hp']at hq;cases hq;exact .inl ⟨_,zs,rfl,hs,λm hm=>k (φ3++[m]) _ _ ((x1.trans (x2.trans x3)).trans ⟨[m],rfl⟩) (R3.newL hm (Qp rs' _ _)) R3.lastRef⟩
    ·split at e
     ·rename_i xs ex;split at e
      ·cases e
      ·rename_i hw;cases e;refine⟨φ,h,σ,_,h1,R,rs,e1,λφ1 H1 w x1 R1 r1=>?_⟩;refine⟨φ1,h1,σ,il,h2,R1,rst.mono x1 rs,⟨l,e2,eil⟩,λφ2 H2 x2 R2=>?_⟩;refine⟨φ2,h2,σ,iu,h3,R2,rst.mono (x1.trans x2) rs,⟨u,e3,eiu⟩,λφ3 H3 x3 R3=>?_⟩;obtain⟨p',zs,hp',hs,rs'⟩:=R3.tup ex;obtain⟨q,rfl,hq⟩:=qK (rv.mono (x2.trans x3) r1);rw[hp']at hq;cases hq;exact .inr ⟨_,zs,rfl,hs,by rw[<-Paired.length rs'];exact hw,λm hm=>k (φ3++[m]) _ _ ((x1.trans (x2.trans x3)).trans ⟨[m],rfl⟩) (R3.newT hm (Qp rs' _ _)) R3.lastRef⟩
     ·cases e
 |_=>cases e
theorem qBi{apos cpos:Pos}(hbase:attributeBase ea "append" X.env (eval ea X.env)=eval ea X.env)(hline:(apos.endLine==cpos.line)=true)(hn:qS eb=true)(ha:SE X G F ea a)(hb:SE X G F eb b):
  SE X G F (.Call (.Attribute ea "append" apos) [eb] [] cpos) (.app a b):=by
 refine qh (L2.pe_bm PySem.F.plainAttrs_list PySem.F.slot_list_append PySem.F.type_list_append L2.mt_append ha (L2.pa_cons hb L2.pa_nil (qC hn)) hbase (by rw[qC hn];rfl) hline (qC hn) rfl) λσc H Q q=>?_;obtain⟨φ,h,σ,v,h',R,rs,e,k⟩:=q;unfold ev at e;obtain⟨⟨x,h1⟩,e1,e⟩:=Res.bind_inv e;dsimp only at e;split at e
 ·rename_i p;split at e
  ·rename_i ys ey;obtain⟨⟨y,h2⟩,e2,e⟩:=Res.bind_inv e;dsimp only at e;split at e
   ·rename_i xs ex;split at e
    ·rename_i hl;cases e;refine⟨φ,h,σ,_,h1,R,rs,e1,λφ1 H1 w x1 R1 r1=>?_⟩;obtain⟨p1,zs1,hp1,hs1,_⟩:=R1.lst ey;obtain⟨q,rfl,hq⟩:=qK r1;rw[hp1]at hq;cases hq;refine⟨.inl ⟨rfl,_,hs1⟩,φ1,h1,σ,y,h2,R1,rst.mono x1 rs,e2,λφ2 H2 yc x2 R2 r2=>?_⟩;obtain⟨q1,p2,zs2,hp2,hH2,rs2⟩:=R2.mut ex;have:=x2.get hp1;rw[hp2]at this;cases this;refine⟨_,zs2,yc,rfl,rfl,hH2,?_,k φ2 _ _ (x1.trans x2) (R2.set q1 hp2 (qI rs2 (.cons r2 .nil))) trivial⟩;rw[<-Paired.length rs2];exact wX hl g7
    ·cases e
   ·cases e
  ·cases e
 ·cases e
theorem Rl.same{K:PySem.W.Frag}{G φ:List Addr}{h:AH}{H H':Hp}(R:Rl K G φ h H)(s:QV H H'):Rl K G φ h H':=⟨R.len,R.glob,λi o a e1 e2=>(R.obj i o a e1 e2).keep (.refl _) s,R.inj⟩
theorem QR{α β:Type}{R:α->β->Prop}{xs:List α}{us:List β}(h:Paired R xs us):Paired R xs.dropLast us.dropLast:=by
 rw[wn,wn,<-Paired.length h];exact qy _ h
theorem ju{α β:Type}{R:α->β->Prop}{xs:List α}{us:List β}(h:Paired R xs us)(k:Nat):Paired R (xs.eraseIdx k) (us.eraseIdx k):=by
 rw[wV,wV];exact qI (qy _ h) (jB _ h)
theorem jA{α β:Type}{R:α->β->Prop}:∀{xs:List α}{us:List β},Paired R xs us->Paired R xs.reverse us.reverse
 |_,_,.nil=>.nil
 |_,_,.cons r t=>by
  rw[wc,wc];exact qI (jA t) (.cons r .nil)
theorem N1{m:Mt}{r:V->List V->Hp->VK->Prop}{σc:St}{H:Hp}{Q:VK}{as:Es}
  (hr:∀φ h H p ys ws v h' Q,Rl X.K G φ h H->rvs φ ys ws->zt m p ys h=.ok (v,h')->(∀φ' H' w,Ext φ φ'->Rl X.K G φ' h' H'->rv φ' v w->Q w H')->∀a,φ[p]?=some a->r (.ref a) ws H Q)
  (q:tE X.K G F (.meth m a as) σc H Q):L2.tBM X.K "list" r (tE X.K G F a) (tL X.K G F as) σc H Q:=by
 obtain⟨φ,h,σ,v,h',R,rs,e,k⟩:=q;unfold ev at e;obtain⟨⟨x,h1⟩,e1,e⟩:=Res.bind_inv e;dsimp only at e;split at e
 ·rename_i p;split at e
  ·rename_i ys ey;obtain⟨⟨zs,h2⟩,e2,e⟩:=Res.bind_inv e;refine⟨φ,h,σ,_,h1,R,rs,e1,λφ1 H1 w x1 R1 r1=>?_⟩;obtain⟨p1,zs1,hp1,hs1,_⟩:=R1.lst ey;obtain⟨q,rfl,hq⟩:=qK r1;rw[hp1]at hq;cases hq;exact⟨.inl ⟨rfl,_,hs1⟩,φ1,h1,σ,zs,h2,R1,rst.mono x1 rs,e2,λφ2 H2 yc x2 R2 r2=>hr φ2 h2 H2 p zs yc v h' Q R2 r2 e (λφ3 H3 w x3 R3 r3=>k φ3 H3 w (x1.trans (x2.trans x3)) R3 r3) _ (x2.get hp1)⟩
  ·cases e
 ·cases e
theorem ZI{m:Mt}{r:V->List V->Hp->VK->Prop}{σc:St}{H:Hp}{Q:VK}
  (hr:∀φ h H p ys ws v h' Q,Rl X.K G φ h H->rvs φ ys ws->zt m p ys h=.ok (v,h')->(∀φ' H' w,Ext φ φ'->Rl X.K G φ' h' H'->rv φ' v w->Q w H')->∀a,φ[p]?=some a->r (.ref a) ws H Q)
  (q:tE X.K G F (.meth m a .nil) σc H Q):L2.tBM0 X.K "list" r (tE X.K G F a) σc H Q:=by
 obtain⟨φ,h,σ,v,h',R,rs,e,k⟩:=q;unfold ev at e;obtain⟨⟨x,h1⟩,e1,e⟩:=Res.bind_inv e;dsimp only at e;split at e
 ·rename_i p;split at e
  ·rename_i ys ey;obtain⟨⟨zs,h2⟩,e2,e⟩:=Res.bind_inv e;unfold evs at e2;cases e2;refine⟨φ,h,σ,_,h1,R,rs,e1,λφ1 H1 w x1 R1 r1=>?_⟩;obtain⟨p1,zs1,hp1,hs1,_⟩:=R1.lst ey;obtain⟨q,rfl,hq⟩:=qK r1;rw[hp1]at hq;cases hq;exact⟨.inl ⟨rfl,_,hs1⟩,hr φ1 h1 H1 p [] [] v h' Q R1 .nil e (λφ3 H3 w x3 R3 r3=>k φ3 H3 w (x1.trans x3) R3 r3) _ hp1⟩
  ·cases e
 ·cases e
theorem Y4:∀φ h H p ys ws v h' Q,Rl X.K G φ h H->rvs φ ys ws->zt .pop p ys h=.ok (v,h')->(∀φ' H' w,Ext φ φ'->Rl X.K G φ' h' H'->rv φ' v w->Q w H')->∀a,φ[p]?=some a->L2.rPop (.ref a) ws H Q:=by
 intro φ h H p ys ws v h' Q R rw' e k a ha;cases ys with
 |cons y ys=>cases e
 |nil=>
  cases rw';unfold zt at e;dsimp only at e;split at e
  ·rename_i xs ex;split at e
   ·rename_i y ey;cases e;obtain⟨q1,p2,zs2,hp2,hH2,rs2⟩:=R.mut ex;rw[ha]at hp2;cases hp2;obtain⟨w,hw,rw2⟩:=qE rs2 ey;refine⟨a,zs2,w,rfl,rfl,hH2,by rw[<-Paired.length rs2];exact hw,k φ _ _ (.refl _) (R.set q1 ha (QR rs2)) rw2⟩
   ·cases e
  ·cases e
theorem F5:∀φ h H p ys ws v h' Q,Rl X.K G φ h H->rvs φ ys ws->zt .popAt p ys h=.ok (v,h')->(∀φ' H' w,Ext φ φ'->Rl X.K G φ' h' H'->rv φ' v w->Q w H')->∀a,φ[p]?=some a->L2.rPopAt (.ref a) ws H Q:=by
 intro φ h H p ys ws v h' Q R rw' e k a ha;unfold zt at e;split at e
 all_goals first|(rename_i z _ _;cases z;done)|(rename_i z _;cases z;done)|(rename_i z;cases z;done)|skip
 ·cases rw' with
  |cons r1 t=>
   cases t;cases qB r1;split at e
   ·rename_i xs ex;split at e
    ·rename_i hl;split at e
     ·rename_i j ej;split at e
      ·rename_i y ey;cases e;obtain⟨q1,p2,zs2,hp2,hH2,rs2⟩:=R.mut ex;rw[ha]at hp2;cases hp2;obtain⟨w,hw,rw2⟩:=qE rs2 ey;obtain⟨s1,s2,s3,s4⟩:=L2.ixN_seq ej;have:=QM;unfold lim at hl;refine⟨a,zs2,_,j,w,rfl,rfl,hH2,by omega,by omega,by rw[<-Paired.length rs2];exact s1,hw,k φ _ _ (.refl _) (R.set q1 ha (ju rs2 j)) rw2⟩
      ·cases e
     ·cases e
    ·cases e
   ·cases e
 ·cases e
theorem W5:∀φ h H p ys ws v h' Q,Rl X.K G φ h H->rvs φ ys ws->zt .rev p ys h=.ok (v,h')->(∀φ' H' w,Ext φ φ'->Rl X.K G φ' h' H'->rv φ' v w->Q w H')->∀a,φ[p]?=some a->L2.rReverse (.ref a) ws H Q:=by
 intro φ h H p ys ws v h' Q R rw' e k a ha;cases ys with
 |cons y ys=>cases e
 |nil=>
  cases rw';unfold zt at e;dsimp only at e;split at e
  ·rename_i xs ex;cases e;obtain⟨q1,p2,zs2,hp2,hH2,rs2⟩:=R.mut ex;rw[ha]at hp2;cases hp2;exact⟨a,zs2,rfl,rfl,hH2,k φ _ _ (.refl _) (R.set q1 ha (jA rs2)) trivial⟩
  ·cases e
theorem T1:∀φ h H p ys ws v h' Q,Rl X.K G φ h H->rvs φ ys ws->zt .clr p ys h=.ok (v,h')->(∀φ' H' w,Ext φ φ'->Rl X.K G φ' h' H'->rv φ' v w->Q w H')->∀a,φ[p]?=some a->L2.rClear (.ref a) ws H Q:=by
 intro φ h H p ys ws v h' Q R rw' e k a ha;cases ys with
 |cons y ys=>cases e
 |nil=>
  cases rw';unfold zt at e;dsimp only at e;split at e
  ·rename_i xs ex;cases e;obtain⟨q1,p2,zs2,hp2,hH2,rs2⟩:=R.mut ex;rw[ha]at hp2;cases hp2;exact⟨a,zs2,rfl,rfl,hH2,k φ _ _ (.refl _) (R.set q1 ha .nil) trivial⟩
  ·cases e
section
open L2
def qDm:V->List V->Hp->VK->Prop:=λx vs H Q=>∃l m xs ys,x=.ref l/\vs=[.ref m]/\H l=some (.lst xs)/\H m=some (.lst ys)/\xs.length+ys.length<=100000/\Q .non (upd H l (.lst (xs++ys)))
theorem qBc{X:L2.Cx}:MtM X "list.extend" qDm:=by
 intro pins s σ H x vs v us Q I rx rv h;obtain⟨l,m,xs,ys,rfl,rfl,hH,hM,hlen,q⟩:=h;cases rx;obtain⟨u,rfl,ru⟩:=rv.one;cases ru;obtain⟨z,its,n,r,hl,e⟩:=I.lstM hH;obtain⟨z2,its2,n2,r2,hl2,e2⟩:=I.lstM hM;have b1:its.length=xs.length:=r.length.symm;have b2:its2.length=ys.length:=r2.length.symm;have sz:=sizeLine_eq;refine call_meets F.slot_list_extend ⟨_,e,rfl⟩ F.entry_list_extend (F.args_list_extend_2 _ _)
  (AutoSeq1.list_extend_list_list_0 l its.toArray n m its2.toArray n2 ?_ (by rw[wB];omega) (by rw[wB,wB];omega)) ⟨e,e2,?_⟩
 ·unfold Builtin.List.listTooLong;simp;intro _;omega
 ·refine⟨.non,_,I.lset (its':=its++its2) hH e (by simp) (qI r r2) ?_,rfl,q⟩;rw[List.length_append];omega
end
theorem U5:∀φ h H p ys ws v h' Q,Rl X.K G φ h H->rvs φ ys ws->zt .ext p ys h=.ok (v,h')->(∀φ' H' w,Ext φ φ'->Rl X.K G φ' h' H'->rv φ' v w->Q w H')->∀a,φ[p]?=some a->qDm (.ref a) ws H Q:=by
 intro φ h H p ys ws v h' Q R rw' e k a ha;unfold zt at e;split at e
 all_goals first|(rename_i z _ _;cases z;done)|(rename_i z _;cases z;done)|(rename_i z;cases z;done)|skip
 ·cases rw' with
  |cons r1 t=>
   cases t;obtain⟨q0,rfl,hq0⟩:=qK r1;split at e
   ·rename_i xs ex;split at e
    ·rename_i ys ey;split at e
     ·rename_i hc;cases e;obtain⟨q1,p2,zs2,hp2,hH2,rs2⟩:=R.mut ex;rw[ha]at hp2;cases hp2;obtain⟨q3,p3,zs3,hp3,hH3,rs3⟩:=R.mut ey;rw[hq0]at hp3;cases hp3;have l2:=Paired.length rs2;have l3:=Paired.length rs3;have hcl:xs.length+ys.length<=100000:=hc.2;refine⟨a,_,_,_,rfl,rfl,hH2,hH3,by rw[<-l2,<-l3];exact hcl,k φ _ _ (.refl _) (R.set q1 ha (qI rs2 rs3)) trivial⟩
     ·cases e
    ·cases e
   ·cases e
 ·cases e
theorem qBf{apos cpos:Pos}(hbase:attributeBase ea "extend" X.env (eval ea X.env)=eval ea X.env)(hline:(apos.endLine==cpos.line)=true)(hn:qS eb=true)(ha:SE X G F ea a)(hb:SE X G F eb b):
  SE X G F (.Call (.Attribute ea "extend" apos) [eb] [] cpos) (.meth .ext a (.cons b .nil)):=
 qh (L2.pe_bm PySem.F.plainAttrs_list PySem.F.slot_list_extend PySem.F.type_list_extend qBc ha (Jf hn hb S1) hbase (by rw[qC hn];rfl) hline (qC hn) rfl) λ_ _ _=>N1 U5
theorem T9{apos cpos:Pos}(hbase:attributeBase ea "pop" X.env (eval ea X.env)=eval ea X.env)(hline:(apos.endLine==cpos.line)=true)(hn:qS eb=true)(ha:SE X G F ea a)(hb:SE X G F eb b):
  SE X G F (.Call (.Attribute ea "pop" apos) [eb] [] cpos) (.meth .popAt a (.cons b .nil)):=
 qh (L2.pe_bm PySem.F.plainAttrs_list PySem.F.slot_list_pop PySem.F.type_list_pop L2.mt_popAt ha (Jf hn hb S1) hbase (by rw[qC hn];rfl) hline (qC hn) rfl) λ_ _ _=>N1 F5
theorem qAG{apos cpos:Pos}(hbase:attributeBase ea "pop" X.env (eval ea X.env)=eval ea X.env)(hline:(apos.endLine==cpos.line)=true)(ha:SE X G F ea a):SE X G F (.Call (.Attribute ea "pop" apos) [] [] cpos) (.meth .pop a .nil):=
 qh (L2.pe_bm0 PySem.F.plainAttrs_list PySem.F.slot_list_pop PySem.F.type_list_pop L2.mt_pop ha hbase hline) λ_ _ _=>ZI Y4
theorem qAJ{apos cpos:Pos}(hbase:attributeBase ea "reverse" X.env (eval ea X.env)=eval ea X.env)(hline:(apos.endLine==cpos.line)=true)(ha:SE X G F ea a):SE X G F (.Call (.Attribute ea "reverse" apos) [] [] cpos) (.meth .rev a .nil):=
 qh (L2.pe_bm0 PySem.F.plainAttrs_list PySem.F.slot_list_reverse PySem.F.type_list_reverse L2.mt_reverse ha hbase hline) λ_ _ _=>ZI W5
theorem qAA{apos cpos:Pos}(hbase:attributeBase ea "clear" X.env (eval ea X.env)=eval ea X.env)(hline:(apos.endLine==cpos.line)=true)(ha:SE X G F ea a):SE X G F (.Call (.Attribute ea "clear" apos) [] [] cpos) (.meth .clr a .nil):=
 qh (L2.pe_bm0 PySem.F.plainAttrs_list PySem.F.slot_list_clear PySem.F.type_list_clear L2.mt_clear ha hbase hline) λ_ _ _=>ZI T1
end
theorem qAb{φ:List Addr}{v w w':V}(a:rv φ v w)(b:rv φ v w'):w=w':=by
 cases v with
 |ref i=>
  obtain⟨x,rfl,e1⟩:=qK a;obtain⟨y,rfl,e2⟩:=qK b;rw[e1]at e2;cases e2;rfl
 |int i=>rw[qB a,qB b]
 |bl i=>rw[zH a,zH b]
 |str i=>rw[zP a,zP b]
 |non=>rw[zF a,zF b]
 |_=>cases w<;>cases a
theorem jp{φ:List Addr}:∀{vs ws ws':List V},rvs φ vs ws->rvs φ vs ws'->ws=ws'
 |_,_,_,.nil,.nil=>rfl
 |_,_,_,.cons a r,.cons b s=>by rw[qAb a b,jp r s]
theorem Rl.pre{K:PySem.W.Frag}{G φ φ':List Addr}{h h2:AH}{H0 H1:Hp}(R0:Rl K G φ h H0)(R1:Rl K G φ' h2 H1)(x:Ext φ φ')(ht:h2.take h.length=h):Rl K G φ h H1:=by
 have up:∀{i:Nat}{o:O},h[i]?=some o->h2[i]?=some o:=λ{i o} e=>by
  have hi:=(List.getElem?_eq_some_iff.mp e).1;rw[<-ht,wP hi]at e;exact e
 refine⟨R0.len,R0.glob,λi o a e ea=>?_,λi j u y a m1 m2 e1 e2 e3 e4=>R1.inj i j u y a m1 m2 (up e1) (up e2) (x.get e3) (x.get e4)⟩;have r1:=R1.obj i o a (up e) (x.get ea);have r0:=R0.obj i o a e ea
 match o,r0,r1 with
 | .lst false xs,⟨ys,_,p⟩,⟨ys',e',p'⟩=>rw[jp p' (rvs.mono x p)]at e';exact⟨ys,e',p⟩
 | .lst true xs,⟨ys,_,p⟩,⟨ys',e',p'⟩=>rw[jp p' (rvs.mono x p)]at e';exact⟨ys,e',p⟩
 | .tup xs,⟨ys,_,p⟩,⟨ys',e',p'⟩=>rw[jp p' (rvs.mono x p)]at e';exact⟨ys,e',p⟩
 | .ob (.dct _),_,e'=>exact e'
 | .ob (.exn _),_,e'=>exact e'
open L2 (It ZS QU)
abbrev Zf(h:Heap)(z ti to:Addr)(f0 f1:Value):Prop:=
 h.get? z=some { cls:=.type "zip",dict:=none,data:=.fields #[f0,f1,.bool false,.ref ti,.ref to],slots:=#[] }
section
variable{P:Program}{w:World}{K:Type}[DecidableEq K]{knd:KeyKind P w K}{A:Around}{E:Value->Shared->Prop}{z ti to i1 i2 a b d:Addr}{xs ys:Array Value}
def Left(knd:KeyKind P w K)(xs ys:Array Value)(k:Nat)(L:List (K×Value)):Prop:=
 (∀j p,L[j]?=some p->∃x,xs[k+j]?=some x/\knd.is p.1 x=true/\ys[k+j]?=some p.2)/\(xs[k+L.length]?=none\/ys[k+L.length]?=none)
theorem Left.next{k:Nat}{p:K×Value}{L:List (K×Value)}(h:Left knd xs ys k (p::L)):(∃x,xs[k]?=some x/\knd.is p.1 x=true/\ys[k]?=some p.2)/\Left knd xs ys (k+1) L:=by
 refine⟨by simpa using h.1 0 p rfl,λj q e=>?_,?_⟩
 ·have:=h.1 (j+1) q (by simpa using e);rw[show k+(j+1)=k+1+j by omega]at this;exact this
 ·have:=h.2;rw[List.length_cons,show k+(L.length+1)=k+1+L.length by omega]at this;exact this
noncomputable def qDg(kvs L:List (K×Value)):List (K×Value):=L.foldl (λacc p=>stored acc p.1 p.2) kvs
end
noncomputable def Itz(K:PySem.W.Frag)(a b:Addr):It:=
 ⟨λi H=>∃xs ys x y,SqL K H a xs/\SqL K H b ys/\xs[i]?=some x/\ys[i]?=some y,
  λi H v H'=>∃p x y,H p=none/\v=.ref p/\H'=upd H p (.tup [x,y])/\(∀xs,SqL K H a xs->xs[i]?=some x)/\∀ys,SqL K H b ys->ys[i]?=some y,
  λi H=>∃xs ys,SqL K H a xs/\SqL K H b ys/\(xs.length<=i\/ys.length<=i)⟩
theorem K2{X:Cx}{pins:List (Addr×Obj)}{σ:L2.St}{H:Hp}{s:Shared}{h':Heap}{T:Addr}{xs:List V}{its:List Value}{ch:List Addr}{t':Nat}(I:Inv X pins σ H s)(hf:∀b∈ch,QU X pins H b)
  (hT:s.heap.objs.size<=T) (k:∀b o,b∉ch->s.heap.get? b=some o->h'.get? b=some o) (hp:IsTup h' T its.toArray) (hv:Vals xs its) (hz:xs.length<=sizeLine) (hTc:T∉ch):
  Inv X pins σ (upd H T (.tup xs)) { s with heap:=h',toks:=t' }:=by
 have hn:H T=none:=I.hok.fresh hT;have neT:∀b o,s.heap.get? b=some o->b≠T:=λb o e=>wJ (wC (Heap.lt_size e) hT);refine I.step (g':=s.gens) (d':=s.drawn) (ch:=ch) (λb hb=>⟨(hf b hb).2.2.2.1,(hf b hb).2.1,(hf b hb).2.2.2.2.1,(hf b hb).2.2.2.2.2⟩) (λb o _ _ hc e _=>k b o hc e) (λb o _ _ hc e _=>⟨o.slots,k b o hc e⟩)
  (λb o _ e n=>by rw[qD (neT b o e)];exact n) (λb o hc e=>⟨o,k b o hc e⟩) (λb ys e=>by rw[qD (L2.ne_of_none e hn)];exact e) (λb o u e=>by rw[qD (L2.ne_of_none e hn)];exact e)
  (λb ps e=>⟨#[],by rw[qD (L2.ne_of_none e hn),e];simp⟩) (λm hm=>?_) (λb u e=>?_) I.bare
 ·obtain⟨o,es,ep,ho,r⟩:=hm;exact⟨o,es,ep,k _ o (λz=>(hf _ z).2.1 rfl) ho,r⟩
 ·by_cases hb:b=T
  ·subst hb;rw[qF]at e;cases e;exact⟨hz,its,hv,hp⟩
  ·rw[qD hb]at e;have nc:∀c u,H c=some u->c∉ch:=λc u q z=>by rw[(hf c z).1]at q;cases q
   refine(I.hok b u e).stay (λc v hc q=>k c v ?_ q) (λc q=>by rw[qD (L2.ne_of_none q hn)];exact q) λc ys q=>by rw[qD (L2.ne_of_none q hn)];exact q
   rcases hc with z|z
   ·rw[z];exact nc b u e
   ·exact nc c _ z
theorem X9{P:Program}{w:World}{K:PySem.W.Frag}{elts:List Expr}{kk:Nat}{tpos:Pos}(z TI TO i1 i2 a b:Addr)(D:ZipApart z TI TO i1 i2 a b):
  ZS P w K (.Tuple elts kk tpos) (Itz K a b) [z,TI,TO,i1,i2] z (λi h=>IsZip h z TI TO .none/\IsPair h TI (.ref i1) (.ref i2)/\(∃x y,IsPair h TO x y)/\h.IsListIter i1 a i/\h.IsListIter i2 b i) where
 mem:=by simp
 obj:=λi h st c hc=>by
  obtain⟨h1,h2,⟨x,y,h3⟩,⟨o4,e4,c4,d4⟩,⟨o5,e5,c5,d5⟩⟩:=st;simp only[List.mem_cons,wO,or_false]at hc;rcases hc with rfl|rfl|rfl|rfl|rfl
  ·exact⟨_,h1,λv q=>by have q':Data.fields _=Data.cell v:=q;cases q'⟩
  ·exact⟨_,h2,λv q=>by have q':Data.seq _ _=Data.cell v:=q;cases q'⟩
  ·exact⟨_,h3,λv q=>by have q':Data.seq _ _=Data.cell v:=q;cases q'⟩
  ·exact⟨o4,e4,λv q=>by rw[d4]at q;cases q⟩
  ·exact⟨o5,e5,λv q=>by rw[d5]at q;cases q⟩
 keep:=λi h h' st k=>by
  obtain⟨h1,h2,⟨x,y,h3⟩,h4,h5⟩:=st;exact⟨k z (by simp) _ h1,k TI (by simp) _ h2,⟨x,y,k TO (by simp) _ h3⟩,h4.at λo e=>k i1 (by simp) o e,h5.at λo e=>k i2 (by simp) o e⟩
 item:=by
  intro X hP hw hK hc i pins s σ H E I hf st hg;subst hP hw hK;obtain⟨xs,ys,x,y,hq1,hq2,hx,hy⟩:=hg;obtain⟨its1,rv1,p1,_⟩:=I.list hq1;obtain⟨its2,rv2,p2,_⟩:=I.list hq2;obtain⟨u,hu,ru⟩:=rv1.get hx;obtain⟨w',hw',rw'⟩:=rv2.get hy;obtain⟨h1,h2,⟨ta,tb,h3⟩,h4,h5⟩:=st;refine wpAny_pyNext_zip_item D h1 h2 h3 h4 h5 p1.isList p2.isList (x:=u) (y:=w') (by simpa using hu) (by simpa using hw') λh' z1 z2 z3 z4 z5 z6 z7=>?_;refine⟨_,rfl,wpAny_letOwnedTupleGo_zip z1 λh'' g1 gs=>?_⟩;have lt:∀c∈[z,TI,TO,i1,i2],c≠s.heap.objs.size:=λc hc=>by
   have ex:∃o,s.heap.get? c=some o:=by
    simp only[List.mem_cons,wO,or_false]at hc;rcases hc with rfl|rfl|rfl|rfl|rfl
    ·exact⟨_,h1⟩
    ·exact⟨_,h2⟩
    ·exact⟨_,h3⟩
    ·obtain⟨o,e,_⟩:=h4;exact⟨o,e⟩
    ·obtain⟨o,e,_⟩:=h5;exact⟨o,e⟩
   obtain⟨o,e⟩:=ex;exact wJ (Heap.lt_size e)
  have up:∀c o,c≠z->h'.get? c=some o->h''.get? c=some o:=λc o hz e=>gs.extBut c o hz e;have kp:∀c o,c∉[z,TI,TO,i1,i2]->s.heap.get? c=some o->h''.get? c=some o:=λc o hn e=>by
   simp only[List.mem_cons,wO,or_false,not_or]at hn;exact up c o hn.1 (z7 c o hn.1 hn.2.2.1 hn.2.2.2.1 hn.2.2.2.2 e)
  have ht:IsTup h'' s.heap.objs.size #[u,w']:=⟨_,up _ _ (Ne.symm (lt z (by simp))) z5,rfl,_,rfl⟩
  have I1:=K2 (t':=s.toks) (xs:=[x,y]) (its:=[u,w']) I hf (Nat.le_refl _) kp ht (.cons ru (.cons rw' .nil)) (by show 2<=sizeLine;decide) (λq=>lt _ q rfl);refine⟨.ref s.heap.objs.size,_,I1,rfl,⟨s.heap.objs.size,x,y,I.hok.fresh (Nat.le_refl _),rfl,rfl,λzs hz=>by rw[I.list_inj hz hq1];exact hx,λzs hz=>by rw[I.list_inj hz hq2];exact hy⟩,
   ⟨g1,up _ _ D.TIz (z7 TI _ D.TIz D.TITO D.TIi1 D.TIi2 h2),⟨_,_,up _ _ D.TOz z2⟩,z3.at λo e=>up _ o D.i1z e,z4.at λo e=>up _ o D.i2z e⟩,λc hc=>?_⟩
  rw[qD (lt c hc)];exact(hf c hc).1
 done:=by
  intro X hP hw hK hc i pins s σ H E I hf st hg;subst hP hw hK;obtain⟨xs,ys,hq1,hq2,hl⟩:=hg;obtain⟨its1,rv1,p1,_⟩:=I.list hq1;obtain⟨its2,rv2,p2,_⟩:=I.list hq2;obtain⟨h1,h2,⟨ta,tb,h3⟩,h4,h5⟩:=st;have n1:=rv1.length;have n2:=rv2.length;refine wpAny_pyNext_zip_end (I.ok.hd hc) D h1 h2 h3 h4 h5 p1.isList p2.isList ?_ λh' z7=>⟨rfl,?_⟩
  ·rcases hl with hl|hl
   ·left;simp;omega
   ·right;simp;omega
  ·have kp:∀c o,c∉[z,TI,TO,i1,i2]->s.heap.get? c=some o->h'.get? c=some o:=λc o hn e=>by
    simp only[List.mem_cons,wO,or_false,not_or]at hn;exact z7 c o hn.1 hn.2.2.1 hn.2.2.2.1 hn.2.2.2.2 e
   refine I.step (g':=s.gens) (d':=s.drawn) (t':=s.toks) (ch:=[z,TI,TO,i1,i2]) (λb hb=>⟨(hf b hb).2.2.2.1,(hf b hb).2.1,(hf b hb).2.2.2.2.1,(hf b hb).2.2.2.2.2⟩) (λb o _ _ hc e _=>kp b o hc e) (λb o _ _ hc e _=>⟨o.slots,kp b o hc e⟩)
    (λb o _ e n=>n) (λb o hc e=>⟨o,kp b o hc e⟩) (λb ys e=>e) (λb o u e=>e) (λb ps e=>⟨#[],by rw[e];simp⟩) (λm hm=>?_) (λb u e=>?_) I.bare
   ·obtain⟨o,es,ep,ho,r⟩:=hm;exact⟨o,es,ep,kp _ o (λz=>(hf _ z).2.1 rfl) ho,r⟩
   ·have nc:∀c u,H c=some u->c∉[z,TI,TO,i1,i2]:=λc u q z=>by rw[(hf c z).1]at q;cases q
    refine(I.hok b u e).stay (λc v hc q=>kp c v ?_ q) (λc q=>q) λc ys q=>q;rcases hc with z|z
    ·rw[z];exact nc b u e
    ·exact nc c _ z
 self:=λ_ _ _ _ _ st h=>wpAny_pyIter_zip st.1 h
noncomputable def qFX(K:PySem.W.Frag)(ta:TA):L2.TI:=λσ H R=>ta σ H λvs H1=>∃a b,vs=[.ref a,.ref b]/\(∃xs,SqL K H1 a xs)/\(∃ys,SqL K H1 b ys)/\R (Itz K a b) H1
theorem qBL{X:Cx}{ea eb:Expr}{ta:TA}{p pos tpos:Pos}{elts:List Expr}{kk:Nat}(hg:L2.Gl X "zip")(hm:X.mg "zip"=none)(ha:PA X [ea,eb] ta)(h1:qS ea=true)(h2:qS eb=true):
  L2.PI X (.Tuple elts kk tpos) (.Call (.Name "zip" p) [ea,eb] [] pos) (qFX X.K ta):=by
 intro pins s σ H R I h;refine Call_ (L2.ld_blt I hg hm PyProof.Rows.boot_zip (PyProof.Rows.callWith_type1 (L2.thn (ha pos pins s σ H _ I h) λus s1 ⟨vs,H1,I1,r1,q1⟩=>?_) (qC h1) (zC (by simp[h2]))));obtain⟨a,b,e,⟨xs,hq1⟩,⟨ys,hq2⟩,q⟩:=q1;subst e;cases r1 with
 |cons r rr=>
  cases rr with
  |cons r' rr=>
   cases rr;cases r;cases r';obtain⟨its1,rv1,p1,_⟩:=I1.list hq1;obtain⟨its2,rv2,p2,_⟩:=I1.list hq2;have a1:a<s1.heap.objs.size:=by obtain⟨_,e,_⟩:=p1.isList;exact Heap.lt_size e
   have a2:b<s1.heap.objs.size:=by obtain⟨_,e,_⟩:=p2.isList;exact Heap.lt_size e
   refine call_zip_2 p1.isList p2.isList λh' hz hTI hTO hi1 hi2 _ hk=>?_;refine wpAny_pyIter_zip hz ?_;have I2:Inv X pins σ H1 { s1 with heap:=h' }:=I1.kept (t':=s1.toks) hk;refine⟨_,_,_,_,H1,rfl,I2,X9 _ _ _ _ _ a b (zipApart_new a1 a2),⟨hz,hTI,⟨_,_,hTO⟩,hi1,hi2⟩,λc hc=>?_,q⟩;have hge:s1.heap.objs.size<=c:=by
    simp only[List.mem_cons,wO,or_false]at hc;rcases hc with rfl|rfl|rfl|rfl|rfl
    ·exact wp _ 4
    ·exact wp _ 2
    ·exact wp _ 3
    ·exact Nat.le_refl _
    ·exact wp _ 1
   exact I1.fpOk hge (I1.hok.fresh hge)
abbrev Tu(h:Heap)(T:Addr)(vs:Array Value):Prop:=h.get? T=some { cls:=.type "tuple",data:=.seq vs }
section
variable{P:Program}{w:World}{A:Around}{E:Value->Shared->Prop}{s:Shared}{z ti to i1 i2 i3 a b c:Addr}{f0:Value}{k1 k2 k3:Nat}{xs ys us:Array Value}{p q r:Value}
def Kp(z to i1 i2 i3:Addr)(h g:Heap):Prop:=g.objs.size=h.objs.size/\∀c o,c∉[z,to,i1,i2,i3]->h.get? c=some o->g.get? c=some o
theorem Kp.step{h g g':Heap}{d:Addr}(k:Kp z to i1 i2 i3 h g)(hd:d∈[z,to,i1,i2,i3])(e:Heap.SameBut d g g'):Kp z to i1 i2 i3 h g':=
 ⟨by rw[e.1,k.1],λc o hc ho=>e.extBut c o (λx=>hc (x ▸ hd)) (k.2 c o hc ho)⟩
end
noncomputable def Ite(K:PySem.W.Frag)(a:Addr):It:=
 ⟨λi H=>∃xs x,SqL K H a xs/\xs[i]?=some x,
  λi H v H'=>∃p x,H p=none/\v=.ref p/\H'=upd H p (.tup [.int (i:Int),x])/\∀xs,SqL K H a xs->xs[i]?=some x,
  λi H=>∃xs,SqL K H a xs/\xs.length<=i⟩
theorem P3{P:Program}{w:World}{K:PySem.W.Frag}{elts:List Expr}{kk:Nat}{tpos:Pos}(e it a:Addr)(hei:e≠it):
  ZS P w K (.Tuple elts kk tpos) (Ite K a) [e,it] e (λi h=>(∃old,IsEnum h e it i old)/\h.IsListIter it a i) where
 mem:=by simp
 obj:=λi h st c hc=>by
  obtain⟨⟨old,h1⟩,⟨o4,e4,c4,d4⟩⟩:=st;simp only[List.mem_cons,wO,or_false]at hc;rcases hc with rfl|rfl
  ·exact⟨_,h1,λv q=>by have q':Data.fields _=Data.cell v:=q;cases q'⟩
  ·exact⟨o4,e4,λv q=>by rw[d4]at q;cases q⟩
 keep:=λi h h' st k=>by
  obtain⟨⟨old,h1⟩,h4⟩:=st;exact⟨⟨old,k e (by simp) _ h1⟩,h4.at λo x=>k it (by simp) o x⟩
 item:=by
  intro X hP hw hK hc i pins s σ H E I hf st hg;subst hP hw hK;obtain⟨xs,x,hq1,hx⟩:=hg;obtain⟨its1,rv1,p1,_⟩:=I.list hq1;obtain⟨u,hu,ru⟩:=rv1.get hx;obtain⟨⟨old,h1⟩,h4⟩:=st;refine wpAny_pyNext_enum_item h1 h4 p1.isList (x:=u) (by simpa using hu) hei λh' z1 z3 z5 z6 z7=>?_;refine⟨_,rfl,wpAny_letOwnedTupleGo_enum z1 λh'' g1 gs=>?_⟩;have lt:∀c∈[e,it],c≠s.heap.objs.size:=λc hc=>by
   have ex:∃o,s.heap.get? c=some o:=by
    simp only[List.mem_cons,wO,or_false]at hc;rcases hc with rfl|rfl
    ·exact⟨_,h1⟩
    ·obtain⟨o,e,_⟩:=h4;exact⟨o,e⟩
   obtain⟨o,e⟩:=ex;exact wJ (Heap.lt_size e)
  have up:∀c o,c≠e->h'.get? c=some o->h''.get? c=some o:=λc o hz q=>gs.extBut c o hz q;have kp:∀c o,c∉[e,it]->s.heap.get? c=some o->h''.get? c=some o:=λc o hn q=>by
   simp only[List.mem_cons,wO,or_false,not_or]at hn;exact up c o hn.1 (z7 c o hn.1 hn.2 q)
  have ht:IsTup h'' s.heap.objs.size #[.int i s.toks,u]:=⟨_,up _ _ (Ne.symm (lt e (by simp))) z5,rfl,_,rfl⟩
  have I1:=K2 (t':=s.toks+1) (xs:=[.int (i:Int),x]) (its:=[.int i s.toks,u]) I hf (Nat.le_refl _) kp ht (.cons ⟨_,rfl⟩ (.cons ru .nil)) (by show 2<=sizeLine;decide) (λq=>lt _ q rfl);refine⟨.ref s.heap.objs.size,_,I1,rfl,⟨s.heap.objs.size,x,I.hok.fresh (Nat.le_refl _),rfl,rfl,λzs hz=>by rw[I.list_inj hz hq1];exact hx⟩,
   ⟨⟨_,by simpa using g1⟩,z3.at λo q=>up _ o (Ne.symm hei) q⟩,λc hc=>?_⟩
  rw[qD (lt c hc)];exact(hf c hc).1
 done:=by
  intro X hP hw hK hc i pins s σ H E I hf st hg;subst hP hw hK;obtain⟨xs,hq1,hl⟩:=hg;obtain⟨its1,rv1,p1,_⟩:=I.list hq1;obtain⟨⟨old,h1⟩,h4⟩:=st;have n1:=rv1.length;obtain⟨f0,f1,f2,f3,f4,f5⟩:=hf it (by simp);exact wpAny_pyNext_enum_end (I.ok.hd hc) h1 h4 p1.isList (by simp;omega) λh' eb=>⟨rfl,I.turned (t':=s.toks) (λb o hb q=>eb b o hb q) f0 f1 f3 f4 f5⟩
 self:=λ_ i s Q E st hQ=>by
  obtain⟨⟨old,h1⟩,h4⟩:=st;exact wpAny_pyIter_enum h1 hQ
noncomputable def qDG(K:PySem.W.Frag)(ta:TA):L2.TI:=λσ H R=>ta σ H λvs H1=>∃a,vs=[.ref a]/\(∃xs,SqL K H1 a xs)/\R (Ite K a) H1
theorem w5{X:Cx}{ea:Expr}{ta:TA}{p pos tpos:Pos}{elts:List Expr}{kk:Nat}(hg:L2.Gl X "enumerate")(hm:X.mg "enumerate"=none)(ha:PA X [ea] ta)(h1:qS ea=true):
  L2.PI X (.Tuple elts kk tpos) (.Call (.Name "enumerate" p) [ea] [] pos) (qDG X.K ta):=by
 intro pins s σ H R I h;refine Call_ (L2.ld_blt I hg hm PyProof.Rows.boot_enumerate (PyProof.Rows.callWith_type1 (L2.thn (ha pos pins s σ H _ I h) λus s1 ⟨vs,H1,I1,r1,q1⟩=>?_) (qC h1) (zC (by simp))));obtain⟨a,e,⟨xs,hq1⟩,q⟩:=q1;subst e;cases r1 with
 |cons r rr=>
  cases rr;cases r;obtain⟨its1,rv1,p1,_⟩:=I1.list hq1;refine call_enumerate_list p1.isList λh' he hi hsz hk=>?_;refine wpAny_pyIter_enum he ?_;have I2:Inv X pins σ H1 { s1 with heap:=h' }:=I1.kept (t':=s1.toks) hk;refine⟨_,_,_,_,H1,rfl,I2,P3 _ _ a (Nat.succ_ne_self _),⟨⟨_,he⟩,hi⟩,λc hc=>?_,q⟩;have hge:s1.heap.objs.size<=c:=by
   simp only[List.mem_cons,wO,or_false]at hc;rcases hc with rfl|rfl
   ·exact wp _ 1
   ·exact Nat.le_refl _
  exact I1.fpOk hge (I1.hok.fresh hge)
open L2 (PGs TG TGs Itl Itt JH)
section
variable (K:PySem.W.Frag)(G:List Addr)
noncomputable def tG(g:Tg):TG:=λv σc H Q=>∃φ h σ w σ',Rl K G φ h H/\rst φ σ σc/\rv φ w v/\store g w σ h=some σ'/\∀σc',rst φ σ' σc'->Q σc' H
noncomputable def tGs(is:List Nat):TGs:=λvs σc H Q=>∃φ σ ws σ',rst φ σ σc/\rvs φ ws vs/\Qc is ws σ=some σ'/\∀σc',rst φ σ' σc'->Q σc' H
end
section
variable{X:Cx}{G:List Addr}{F:Nat->List V->AH->RV}
theorem qBe{e:Expr}{t t':TG}(h:PG X e t)(w:∀v σ H Q,t' v σ H Q->t v σ H Q):PG X e t':=λpins s σ H v u Q I r q=>h pins s σ H v u Q I r (w v σ H Q q)
theorem Y9{e:List Expr}{t t':TGs}(h:PGs X e t)(w:∀v σ H Q,t' v σ H Q->t v σ H Q):PGs X e t':=λpins s σ H v u Q I r q=>h pins s σ H v u Q I r (w v σ H Q q)
variable (X G) in
abbrev SG(e:Expr)(g:Tg):Prop:=PG X e (tG X.K G g)
theorem O8{i:Nat}{x:Str}{pos:Pos}(hN:X.N.Nodup)(hi:X.N[i]?=some x)(hx:L2.Loc X.env.scope x)(hf:X.fn x=true\/X.env.scope.names.lookup x=some .local):SG X G (.Name x pos) (.name i):=by
 refine qBe (L2.pg_name hN hi hx hf) λv σc H Q q=>?_;obtain⟨φ,h,σ,w,σ',R,rs,r,e,k⟩:=q;unfold store at e;cases e;exact k _ (zA (R:=ropt φ) (show ropt φ (some w) (some v) from⟨v,rfl,r⟩) i rs)
theorem qAU:PGs X [] (tGs []):=by
 refine Y9 L2.pgs_nil λvs σc H Q q=>?_;obtain⟨φ,σ,ws,σ',rs,r,e,k⟩:=q;cases ws with
 |nil=>
  cases r;cases e;exact⟨rfl,k _ rs⟩
 |cons _ _=>cases e
theorem Y1{i:Nat}{is:List Nat}{x:Str}{pos:Pos}{es:List Expr}(hN:X.N.Nodup)(hi:X.N[i]?=some x)(hx:L2.Loc X.env.scope x)(hf:X.fn x=true\/X.env.scope.names.lookup x=some .local)(hs:PGs X es (tGs is)):
  PGs X (.Name x pos::es) (tGs (i::is)):=by
 refine Y9 (L2.pgs_cons (L2.pg_name hN hi hx hf) hs rfl) λvs σc H Q q=>?_;obtain⟨φ,σ,ws,σ',rs,r,e,k⟩:=q;cases ws with
 |nil=>cases e
 |cons w ws=>
  cases r with
  |cons r1 rr=>exact⟨_,_,rfl,φ,_,ws,σ',zA (R:=ropt φ) (show ropt φ (some w) (some _) from⟨_,rfl,r1⟩) i rs,rr,e,k⟩
theorem Qq:∀{is:List Nat}{xs:List V}{σ σ':St},Qc is xs σ=some σ'->xs.length=is.length
 | [],[],_,_,_=>rfl
 | [],_::_,_,_,e=>by cases e
 |_::_,[],_,_,e=>by cases e
 |i::is,x::xs,σ,σ',e=>by
  have:=Qq (show Qc is xs _=some σ' from e);simp[this]
theorem qAz{is:List Nat}{es:List Expr}{k:Nat}{pos:Pos}(hc:X.calm=true)(h:PGs X es (tGs is))(hn:(assignEach es X.env).length=is.length)(hst:(assignEach es X.env).findIdx? (·.1)=none):SG X G (.Tuple es k pos) (.tup is):=by
 refine qBe (L2.pg_tup hc h hn hst) λv σc H Q q=>?_;obtain⟨φ,h,σ,w,σ',R,rs,r,e,k⟩:=q;cases w with
 |ref a=>
  unfold store at e;dsimp only at e;split at e
  ·rename_i xs ex;obtain⟨p,zs,hp,hs,rz⟩:=R.tup ex;obtain⟨q,rfl,hq⟩:=qK r;rw[hp]at hq;cases hq;exact⟨_,zs,rfl,hs,by rw[<-Paired.length rz];exact Qq e,φ,σ,xs,σ',rs,rz,e,k⟩
  ·cases e
 |_=>cases e
def IsJ(K:PySem.W.Frag)(φ:List Addr):Src->It->Prop
 | .list p,J=>∃a,φ[p]?=some a/\J=Itl K a
 | .tupl p,J=>∃a,φ[p]?=some a/\J=Itt K a
 | .rng lo n,J=>J=L2.Itr lo n
 | .zip p q,J=>∃a b,φ[p]?=some a/\φ[q]?=some b/\J=Itz K a b
 | .enum p,J=>∃a,φ[p]?=some a/\J=Ite K a
theorem IsJ.mono{K:PySem.W.Frag}{φ φ':List Addr}(x:Ext φ φ'):∀{s:Src}{J:It},IsJ K φ s J->IsJ K φ' s J
 | .list _,_,⟨a,h,e⟩=>⟨a,x.get h,e⟩
 | .tupl _,_,⟨a,h,e⟩=>⟨a,x.get h,e⟩
 | .rng _ _,_,e=>e
 | .zip _ _,_,⟨a,b,h,g,e⟩=>⟨a,b,x.get h,x.get g,e⟩
 | .enum _,_,⟨a,h,e⟩=>⟨a,x.get h,e⟩
section
variable{K:PySem.W.Frag}{φ:List Addr}{h h1:AH}{H H':Hp}{s:Src}{J:It}{i:Nat}{x v:V}
theorem IsJ.stop(j:IsJ K φ s J)(R:Rl K G φ h H)(e:zy h i s=true):J.stop i H:=by
 cases s with
 |list p=>
  obtain⟨a,ha,rfl⟩:=j;unfold zy at e;dsimp only at e;split at e
  ·rename_i xs ex;obtain⟨q,zs,hq,hs,rz⟩:=R.lst ex;rw[ha]at hq;cases hq;exact⟨zs,hs,by rw[<-Paired.length rz];exact vG e⟩
  ·cases e
 |tupl p=>
  obtain⟨a,ha,rfl⟩:=j;unfold zy at e;dsimp only at e;split at e
  ·rename_i xs ex;obtain⟨q,zs,hq,hs,rz⟩:=R.tup ex;rw[ha]at hq;cases hq;exact⟨zs,hs,by rw[<-Paired.length rz];exact vG e⟩
  ·cases e
 |rng lo n=>
  cases j;show n<=i;exact vG e
 |zip p q=>
  obtain⟨a,b,ha,hb,rfl⟩:=j;unfold zy at e;dsimp only at e;split at e
  ·rename_i xs ys ex ey;obtain⟨a',zs,hq,hs,rz⟩:=R.lst ex;obtain⟨b',ws,hq',hs',rz'⟩:=R.lst ey;rw[ha]at hq;cases hq;rw[hb]at hq';cases hq';exact⟨zs,ws,hs,hs',by rw[<-Paired.length rz,<-Paired.length rz'];exact vG e⟩
  ·cases e
 |enum p=>
  obtain⟨a,ha,rfl⟩:=j;unfold zy at e;dsimp only at e;split at e
  ·rename_i xs ex;obtain⟨q,zs,hq,hs,rz⟩:=R.lst ex;rw[ha]at hq;cases hq;exact⟨zs,hs,by rw[<-Paired.length rz];exact vG e⟩
  ·cases e
theorem IsJ.go(j:IsJ K φ s J)(R:Rl K G φ h H)(e:qj h i s=some (x,h1)):J.go i H:=by
 cases s with
 |list p=>
  obtain⟨a,ha,rfl⟩:=j;unfold qj at e;dsimp only at e;split at e
  ·rename_i xs ex;obtain⟨y,ey,e2⟩:=Option.map_eq_some_iff.mp e;obtain⟨q,zs,hq,hs,rz⟩:=R.lst ex;rw[ha]at hq;cases hq;obtain⟨z,hz,_⟩:=qE rz ey;exact⟨zs,z,hs,hz⟩
  ·cases e
 |tupl p=>
  obtain⟨a,ha,rfl⟩:=j;unfold qj at e;dsimp only at e;split at e
  ·rename_i xs ex;obtain⟨y,ey,e2⟩:=Option.map_eq_some_iff.mp e;obtain⟨q,zs,hq,hs,rz⟩:=R.tup ex;rw[ha]at hq;cases hq;obtain⟨z,hz,_⟩:=qE rz ey;exact⟨zs,z,hs,hz⟩
  ·cases e
 |rng lo n=>
  cases j;unfold qj at e;dsimp only at e;split at e
  ·rename_i hl;exact hl
  ·cases e
 |zip p q=>
  obtain⟨a,b,ha,hb,rfl⟩:=j;unfold qj at e;dsimp only at e;split at e
  ·rename_i xs ys ex ey;split at e
   ·rename_i u w eu ew;obtain⟨a',zs,hq,hs,rz⟩:=R.lst ex;obtain⟨b',ws,hq',hs',rz'⟩:=R.lst ey;rw[ha]at hq;cases hq;rw[hb]at hq';cases hq';obtain⟨z,hz,_⟩:=qE rz eu;obtain⟨z',hz',_⟩:=qE rz' ew;exact⟨zs,ws,z,z',hs,hs',hz,hz'⟩
   ·cases e
  ·cases e
 |enum p=>
  obtain⟨a,ha,rfl⟩:=j;unfold qj at e;dsimp only at e;split at e
  ·rename_i xs ex;obtain⟨y,ey,e2⟩:=Option.map_eq_some_iff.mp e;obtain⟨q,zs,hq,hs,rz⟩:=R.lst ex;rw[ha]at hq;cases hq;obtain⟨z,hz,_⟩:=qE rz ey;exact⟨zs,z,hs,hz⟩
  ·cases e
theorem IsJ.yld(j:IsJ K φ s J)(R:Rl K G φ h H)(e:qj h i s=some (x,h1))(y:J.yld i H v H'):∃φ',Ext φ φ'/\Rl K G φ' h1 H'/\rv φ' x v:=by
 cases s with
 |list p=>
  obtain⟨a,ha,rfl⟩:=j;unfold qj at e;dsimp only at e;split at e
  ·rename_i xs ex;obtain⟨y',ey,e2⟩:=Option.map_eq_some_iff.mp e;cases e2;obtain⟨q,zs,hq,hs,rz⟩:=R.lst ex;rw[ha]at hq;cases hq;obtain⟨z,hz,rz'⟩:=qE rz ey;obtain⟨rfl,k⟩:=y;have:=k zs hs;rw[hz]at this;cases this;exact⟨φ,.refl _,R,rz'⟩
  ·cases e
 |tupl p=>
  obtain⟨a,ha,rfl⟩:=j;unfold qj at e;dsimp only at e;split at e
  ·rename_i xs ex;obtain⟨y',ey,e2⟩:=Option.map_eq_some_iff.mp e;cases e2;obtain⟨q,zs,hq,hs,rz⟩:=R.tup ex;rw[ha]at hq;cases hq;obtain⟨z,hz,rz'⟩:=qE rz ey;obtain⟨rfl,k⟩:=y;have:=k zs hs;rw[hz]at this;cases this;exact⟨φ,.refl _,R,rz'⟩
  ·cases e
 |rng lo n=>
  cases j;unfold qj at e;dsimp only at e;split at e
  ·cases e;obtain⟨rfl,rfl⟩:=y;exact⟨φ,.refl _,R,rfl⟩
  ·cases e
 |zip p q=>
  obtain⟨a,b,ha,hb,rfl⟩:=j;unfold qj at e;dsimp only at e;split at e
  ·rename_i xs ys ex ey;split at e
   ·rename_i u w eu ew;cases e;obtain⟨a',zs,hq,hs,rz⟩:=R.lst ex;obtain⟨b',ws,hq',hs',rz'⟩:=R.lst ey;rw[ha]at hq;cases hq;rw[hb]at hq';cases hq';obtain⟨z,hz,r1⟩:=qE rz eu;obtain⟨z',hz',r2⟩:=qE rz' ew;obtain⟨p',x',y',hn,rfl,rfl,k1,k2⟩:=y;have t1:=k1 zs hs;have t2:=k2 ws hs';rw[hz]at t1;cases t1;rw[hz']at t2;cases t2;exact⟨φ++[p'],⟨[p'],rfl⟩,R.newT hn (.cons r1 (.cons r2 .nil)),R.lastRef⟩
   ·cases e
  ·cases e
 |enum p=>
  obtain⟨a,ha,rfl⟩:=j;unfold qj at e;dsimp only at e;split at e
  ·rename_i xs ex;obtain⟨y',ey,e2⟩:=Option.map_eq_some_iff.mp e;cases e2;obtain⟨q,zs,hq,hs,rz⟩:=R.lst ex;rw[ha]at hq;cases hq;obtain⟨z,hz,r1⟩:=qE rz ey;obtain⟨p',x',hn,rfl,rfl,k⟩:=y;have:=k zs hs;rw[hz]at this;cases this;exact⟨φ++[p'],⟨[p'],rfl⟩,R.newT hn (.cons rfl (.cons r1 .nil)),R.lastRef⟩
  ·cases e
end
variable (G F) in
noncomputable def tI(K:PySem.W.Frag)(it:Itr):L2.TI:=λσc H R=>∃φ h σ s h',Rl K G φ h H/\rst φ σ σc/\evi F it σ h=.ok (s,h')/\∀φ' H' J,Ext φ φ'->Rl K G φ' h' H'->IsJ K φ' s J->R J H'
variable (X G F) in
abbrev SI(tg iter:Expr)(it:Itr):Prop:=L2.PI X tg iter (tI G F X.K it)
theorem U0{tg e:Expr}{t t':L2.TI}(h:L2.PI X tg e t)(w:∀σ H Q,t' σ H Q->t σ H Q):L2.PI X tg e t':=λpins s σ H Q I q=>h pins s σ H Q I (w σ H Q q)
variable{a b:E}{ea eb tg:Expr}{pos p:Pos}
noncomputable def qFI(K:PySem.W.Frag)(tl:TE):L2.TI:=λσ H R=>tl σ H λx H1=>∃a,x=.ref a/\(((∃xs,SqL K H1 a xs)/\R (Itl K a) H1)\/((∃xs,SqT K H1 a xs)/\R (Itt K a) H1))
theorem qBy{l:Expr}{tl:TE}(hl:PE X l tl):L2.PI X tg l (qFI X.K tl):=by
 intro pins s σ H R I h;refine L2.thn (hl pins s σ H _ I h) λv s1 ⟨x,H1,I1,r1,q1⟩=>?_;obtain⟨a,e,q⟩:=q1;subst e;cases r1;rcases q with⟨⟨xs,hq⟩,q⟩|⟨⟨xs,hq⟩,q⟩
 ·obtain⟨its,rv,p,hz⟩:=I1.list hq;refine wpAny_pyIter_list p.isList ?_;refine⟨s1.heap.objs.size,[s1.heap.objs.size],_,_,H1,rfl,I1.kept (t':=s1.toks) λb o e=>Heap.get?_push_of_some _ e,L2.turn_list a _,⟨_,Heap.get?_push_size _ rfl,rfl,rfl⟩,λb hb=>?_,q⟩;have e:b=s1.heap.objs.size:=by simpa using hb
  subst e;exact I1.fpOk (Nat.le_refl _) (I1.hok.fresh (Nat.le_refl _))
 ·obtain⟨its,rv,p,hz⟩:=I1.tuple hq;refine wpAny_pyIter_tuple (show s1.heap.IsTuple a its.toArray from p) ?_;refine⟨s1.heap.objs.size,[s1.heap.objs.size],_,_,H1,rfl,I1.kept (t':=s1.toks) λb o e=>Heap.get?_push_of_some _ e,L2.turn_tuple a _,⟨_,Heap.get?_push_size _ rfl,rfl,rfl⟩,λb hb=>?_,q⟩;have e:b=s1.heap.objs.size:=by simpa using hb
  subst e;exact I1.fpOk (Nat.le_refl _) (I1.hok.fresh (Nat.le_refl _))
theorem L6(ha:SE X G F ea a):SI X G F tg ea (.list a):=by
 refine U0 (qBy ha) λσc H Q q=>?_;obtain⟨φ,h,σ,s,h',R,rs,e,k⟩:=q;unfold evi at e;obtain⟨⟨x,h1⟩,e1,e⟩:=Res.bind_inv e;refine⟨φ,h,σ,x,h1,R,rs,e1,λφ1 H1 w x1 R1 r1=>?_⟩;cases x with
 |ref p=>
  dsimp only at e;cases ey:h1[p]? with
  |none=>rw[ey]at e;cases e
  |some o=>
   cases o with
   |lst fz ys=>
    rw[ey]at e;cases e;obtain⟨q,zs,hq,hs,rz⟩:=R1.lst (i:=p) (xs:=ys) (by unfold qP;rw[ey]);obtain⟨q',rfl,hq'⟩:=qK r1;rw[hq]at hq';cases hq';exact⟨_,rfl,.inl ⟨⟨zs,hs⟩,k φ1 H1 _ x1 R1 ⟨_,hq,rfl⟩⟩⟩
   |tup ys=>
    rw[ey]at e;cases e;obtain⟨q,zs,hq,hs,rz⟩:=R1.tup (i:=p) (xs:=ys) (by unfold qW;rw[ey]);obtain⟨q',rfl,hq'⟩:=qK r1;rw[hq]at hq';cases hq';exact⟨_,rfl,.inr ⟨⟨zs,hs⟩,k φ1 H1 _ x1 R1 ⟨_,hq,rfl⟩⟩⟩
   |ob ks=>rw[ey]at e;cases e
 |_=>cases e
theorem q9(hg:L2.Gl X "range")(hm:X.mg "range"=none)(hn:qS ea=true)(ha:SE X G F ea a):SI X G F tg (.Call (.Name "range" p) [ea] [] pos) (.rng1 a):=by
 refine U0 (L2.pi_range1 hg hm (L2.pa_cons ha L2.pa_nil (qC hn)) (qC hn)) λσc H Q q=>?_;obtain⟨φ,h,σ,s,h',R,rs,e,k⟩:=q;unfold evi at e;obtain⟨⟨x,h1⟩,e1,e⟩:=Res.bind_inv e;refine⟨φ,h,σ,x,h1,R,rs,e1,λφ1 H1 w x1 R1 r1=>?_⟩;cases x with
 |int j=>
  dsimp only at e;split at e
  ·rename_i hj;cases e;cases qB r1;exact⟨j,rfl,by omega,by omega,k φ1 H1 _ x1 R1 rfl⟩
  ·cases e
 |_=>cases e
theorem z8{elts:List Expr}{kk:Nat}{tpos:Pos}(hg:L2.Gl X "enumerate")(hm:X.mg "enumerate"=none)(hn:qS ea=true)(ha:SE X G F ea a):
  SI X G F (.Tuple elts kk tpos) (.Call (.Name "enumerate" p) [ea] [] pos) (.enum a):=by
 refine U0 (w5 hg hm (L2.pa_cons ha L2.pa_nil (qC hn)) hn) λσc H Q q=>?_;obtain⟨φ,h,σ,s,h',R,rs,e,k⟩:=q;unfold evi at e;obtain⟨⟨x,h1⟩,e1,e⟩:=Res.bind_inv e;refine⟨φ,h,σ,x,h1,R,rs,e1,λφ1 H1 w x1 R1 r1=>?_⟩;cases x with
 |ref p=>
  dsimp only at e;split at e
  ·rename_i xs ex;cases e;obtain⟨q,zs,hq,hs,rz⟩:=R1.lst ex;obtain⟨q',rfl,hq'⟩:=qK r1;rw[hq]at hq';cases hq';exact⟨_,rfl,⟨zs,hs⟩,k φ1 H1 _ x1 R1 ⟨_,hq,rfl⟩⟩
  ·cases e
 |_=>cases e
theorem qAu{elts:List Expr}{kk:Nat}{tpos:Pos}(hg:L2.Gl X "zip")(hm:X.mg "zip"=none)(hn:qS ea=true)(hn2:qS eb=true)(ha:SE X G F ea a)(hb:SE X G F eb b):
  SI X G F (.Tuple elts kk tpos) (.Call (.Name "zip" p) [ea,eb] [] pos) (.zip a b):=by
 refine U0 (qBL hg hm (L2.pa_cons ha (L2.pa_cons hb L2.pa_nil (qC hn2)) (qC hn)) hn hn2) λσc H Q q=>?_;obtain⟨φ,h,σ,s,h',R,rs,e,k⟩:=q;unfold evi at e;obtain⟨⟨x,h1⟩,e1,e⟩:=Res.bind_inv e;obtain⟨⟨y,h2⟩,e2,e⟩:=Res.bind_inv e;refine QA R rs e1 e2 λφ2 H2 xc yc x2 R2 r1 r2=>?_;cases x with
 |ref i=>
  cases y with
  |ref j=>
   dsimp only at e;split at e
   ·rename_i xs ys ex ey;cases e;obtain⟨a',zs,hq,hs,rz⟩:=R2.lst ex;obtain⟨b',ws,hq',hs',rz'⟩:=R2.lst ey;obtain⟨a2,rfl,ha2⟩:=qK r1;obtain⟨b2,rfl,hb2⟩:=qK r2;rw[hq]at ha2;cases ha2;rw[hq']at hb2;cases hb2;exact⟨_,_,rfl,⟨zs,hs⟩,⟨ws,hs'⟩,k φ2 H2 _ x2 R2 ⟨_,_,hq,hq',rfl⟩⟩
   ·cases e
  |_=>cases e
 |_=>cases e
end
section
variable{X:Cx}{G:List Addr}{F:Nat->List V->AH->RV}
theorem qBz{φ:List Addr}:∀{v w w':V},rv φ v w->rv φ v w'->w=w'
 | .ref _,w,w',h,g=>by
  obtain⟨a,e1,h1⟩:=qK h;obtain⟨b,e2,g1⟩:=qK g;rw[h1]at g1;cases g1;rw[e1,e2]
 | .non,_,_,h,g=>by rw[zF h,zF g]
 | .bl _,_,_,h,g=>by rw[zH h,zH g]
 | .int _,_,_,h,g=>by rw[qB h,qB g]
 | .str _,_,_,h,g=>by rw[zP h,zP g]
 | .byt _,w,_,h,_=>by cases w<;>exact False.elim h
 | .flt _,w,_,h,_=>by cases w<;>exact False.elim h
 | .ty _,w,_,h,_=>by cases w<;>exact False.elim h
theorem JS{φ:List Addr}:∀{vs ws us:List V},rvs φ vs ws->rvs φ vs us->ws=us
 |_,_,_,.nil,.nil=>rfl
 |_,_,_,.cons r t,.cons r' t'=>by rw[qBz r r',JS t t']
theorem QC{φ:List Addr}{σ σc:St}(r:rst φ σ σc):∀src,rst φ (L2.inner src σ) (L2.inner src σc)
 | []=>.nil
 |none::src=>.cons trivial (QC r src)
 |some j::src=>by
  refine .cons ?_ (QC r src);show ropt φ (σ[j]?).join (σc[j]?).join;cases e:σ[j]? with
  |none=>exact trivial
  |some o=>
   cases o with
   |none=>exact trivial
   |some v=>
    obtain⟨oc,ec,r'⟩:=qE r e;obtain⟨w,rfl,r'⟩:=r';rw[ec];exact⟨w,rfl,r'⟩
variable (X G F) in
abbrev SC(ifs:List Expr)(c:Es):Prop:=L2.PTs X ifs (tB X.K G (evc F c))
theorem qAy:SC X G F [] .nil:=by
 intro pins s σ H Q I q;obtain⟨φ,h,σa,b,h',R,rs,e,k⟩:=q;unfold evc at e;cases e;exact L2.pts_nil pins s σ H Q I (k φ H (.refl _) R)
theorem qBk{c:Expr}{a:E}(hc:ST X G F c a):SC X G F [c] (.cons a .nil):=by
 intro pins s σ H Q I q;obtain⟨φ,h,σa,b,h',R,rs,e,k⟩:=q;unfold evc at e;exact L2.pts_one hc pins s σ H Q I ⟨φ,h,σa,b,h',R,rs,e,k⟩
theorem L3{it:Itr}{src:List (Option Nat)}{g:Tg}{c:Es}{e:E}{σc:St}{H:Hp}{Q:VK}(q:tE X.K G F (.comp it src g c e) σc H Q):
  L2.tComp (tI G F X.K it) src (tG X.K G g) (tB X.K G (evc F c)) (tE X.K G F e) σc H Q:=by
 obtain⟨φ,h,σ,v,h',R,rs,ee,k⟩:=q;unfold ev at ee;obtain⟨⟨s,h1⟩,e1,ee⟩:=Res.bind_inv ee;refine⟨φ,h,σ,s,h1,R,rs,e1,λφ1 H1 J x1 R1 j1=>?_⟩;dsimp only at ee;split at ee
 ·rename_i n hn;intro D hD;have R2:Rl X.K G (φ1++[D]) (h1++[.lst false []]) (upd H1 D (.lst [])):=R1.newL hD .nil;have hDφ:(φ1++[D])[h1.length]?=some D:=R1.lastRef;refine⟨λi m ys σ' H'=>∃φ' h2 σa ya,Ext (φ1++[D]) φ'/\Rl X.K G φ' h2 H'/\rst φ' σa σ'/\rvs φ' ya ys/\h2[h1.length]?=some (.lst false ya)/\jw s g (evc F c) (ev F e) h1.length m i ya σa h2=.ok (v,h'),
   ⟨n,φ1++[D],_,_,[],.refl _,R2,QC (rst.mono (x1.trans ⟨[D],rfl⟩) rs) src,.nil,by simp,ee⟩,?_⟩
  rintro i m ys σ' H' ⟨φ',h2,σa,ya,x2,Ra,rsa,rya,hya,ec⟩ hys;have jj:IsJ X.K φ' s J:=j1.mono (Ext.trans ⟨[D],rfl⟩ x2);have hDφ':=x2.get hDφ;cases m with
  |zero=>
   unfold jw at ec;split at ec
   ·rename_i hst;cases ec;exact .inl ⟨jj.stop Ra hst,k φ' H' _ ((x1.trans ⟨[D],rfl⟩).trans x2) Ra hDφ'⟩
   ·cases ec
  |succ m=>
   unfold jw at ec;split at ec
   ·rename_i x h3 hy;split at ec
    ·rename_i σ3 hst;refine .inr ⟨jj.go Ra hy,λxv H2 hyl=>?_⟩;obtain⟨φ3,x3,R3,rx⟩:=jj.yld Ra hy hyl;refine⟨φ3,h3,σa,x,σ3,R3,rst.mono x3 rsa,rx,hst,λσc3 rs3=>?_⟩;obtain⟨⟨t,h4⟩,e4,ec⟩:=Res.bind_inv ec;refine⟨φ3,h3,σ3,t,h4,R3,rs3,e4,λφ4 H4 x4 R4=>?_⟩;dsimp only at ec;cases t with
     |true=>
      rw[if_pos rfl]at ec ⊢;obtain⟨⟨y,h5⟩,e5,ec⟩:=Res.bind_inv ec;refine⟨φ4,h4,σ3,y,h5,R4,rst.mono x4 rs3,e5,λφ5 H5 yc x5 R5 r5=>?_⟩;dsimp only at ec;split at ec
      ·rename_i hc5;have xx:Ext φ' φ5:=x3.trans (x4.trans x5);have hD5:=xx.get hDφ';obtain⟨zs,hz,rz⟩:=R5.obj _ _ D hc5.1 hD5;have ez:zs=ys:=JS rz (rvs.mono xx rya);subst ez;refine⟨hz,by rw[<-Paired.length rz];exact wX hc5.2 g7,m,Nat.lt_succ_self _,φ5,_,σ3,_,x2.trans xx,R5.set hc5.1 hD5 (qI rz (.cons r5 .nil)),rst.mono (x4.trans x5) rs3,qI rz (.cons r5 .nil),?_,ec⟩;rw[wN (List.getElem?_eq_some_iff.mp hc5.1).1]
      ·cases ec
     |false=>
      rw[if_neg (by decide)]at ec ⊢;split at ec
      ·rename_i hc4;have xx:Ext φ' φ4:=x3.trans x4;have hD4:=xx.get hDφ';obtain⟨zs,hz,rz⟩:=R4.obj _ _ D hc4 hD4;have ez:zs=ys:=JS rz (rvs.mono xx rya);subst ez;exact⟨hz,m,Nat.lt_succ_self _,φ4,_,σ3,_,x2.trans xx,R4,rst.mono x4 rs3,rz,hc4,ec⟩
      ·cases ec
    ·cases ec
   ·cases ec
 ·cases ee
end
section
variable{X:Cx}{G:List Addr}{F:Nat->List V->AH->RV}{a b c:E}{ea eb ec tg:Expr}{pos:Pos}
theorem J5{iter elt:Expr}{ifs:List Expr}{scope:Scope}{N:List Str}{it:Itr}{src:List (Option Nat)}{g:Tg}{cs:Es}{e:E}(hc:X.calm=true)(hi:SI X G F tg iter it)(S:L2.CompScope X scope N src)
  (hg:∀C fp s H,SG (L2.cxComp X scope C fp s H N) G tg g) (ht:∀C fp s H,SC (L2.cxComp X scope C fp s H N) G F ifs cs) (he:∀C fp s H,SE (L2.cxComp X scope C fp s H N) G F elt e)
  (hs:∀x,foldedSetIterable iter X.env x=pure x):SE X G F (.ListComp elt [⟨tg,iter,ifs,0⟩] scope pos) (.comp it src g cs e):=
 qh (L2.pe_comp hc hi S hg ht he hs) λ_ _ _=>L3
def Post(K:PySem.W.Frag)(G:List Addr)(D:JH)(φ:List Addr)(o:Out)(h':AH):Prop:=∀φ' H',Ext φ φ'->Rl K G φ' h' H'->match o with
 | .nx σ=>∀σc,rst φ' σ σc->D.nx σc H'
 | .rt v=>∀w,rv φ' v w->D.rt w H'
 | .bk σ=>∀σc,rst φ' σ σc->D.bk σc H'
 | .ct σ=>∀σc,rst φ' σ σc->D.ct σc H'
theorem Post.mono{K:PySem.W.Frag}{D:JH}{φ φ1:List Addr}{o:Out}{h':AH}(x:Ext φ φ1)(p:Post K G D φ o h'):Post K G D φ1 o h':=λφ' H' x' R=>p φ' H' (x.trans x') R
noncomputable def tS(K:PySem.W.Frag)(G:List Addr)(r:St->AH->RS):TS:=λD σc H=>∃φ h σ o h',Rl K G φ h H/\rst φ σ σc/\r σ h=.ok (o,h')/\Post K G D φ o h'
variable (X G F) in
abbrev SS(st:Stmt)(s:S):Prop:=PS X st (tS X.K G (ex F s))
variable (X G F) in
abbrev SSs(st:List Stmt)(s:Ss):Prop:=PSs X st (tS X.K G (exs F s))
theorem je{e:Stmt}{t t':TS}(h:PS X e t)(w:∀D σ H,t' D σ H->t D σ H):PS X e t':=λpins s σ H D I q=>h pins s σ H D I (w D σ H q)
theorem Z1{e:List Stmt}{t t':TS}(h:PSs X e t)(w:∀D σ H,t' D σ H->t D σ H):PSs X e t':=λpins s σ H D I q=>h pins s σ H D I (w D σ H q)
theorem qX{st:Stmt}:SS X G F st .stop:=by
 intro pins s σ H D I q;obtain⟨φ,h,σa,o,h',R,rs,e,k⟩:=q;unfold ex at e;cases e
noncomputable def zj:Expr->Bool
 | .ListComp ..=>false
 | .SetComp ..=>false
 | .DictComp ..=>false
 |_=>true
theorem zZ{e:Expr}{t:Option Expr}{l:Nat}{env:Env}(h:zj e=true):swapsWith e t l env=pure false:=by
 cases e<;>first|rfl|cases h
theorem jX{e t:Expr}{l:Nat}{env:Env}(h:zj e=true):swapsWithSole [t] e l env=pure false:=zZ h
theorem u9{K:PySem.W.Frag}{σ:St}{H:Hp}{Q Q':VK}(q:tE K G F a σ H Q)(w:∀v H,Q v H->Q' v H):tE K G F a σ H Q':=by
 obtain⟨φ,h,σa,v,h',R,rs,e,k⟩:=q;exact⟨φ,h,σa,v,h',R,rs,e,λφ' H' u x' R' r'=>w u H' (k φ' H' u x' R' r')⟩
theorem Jl{g:Tg}{D:JH}{σc:St}{H:Hp}(q:tS X.K G (ex F (.asg g a)) D σc H):L2.tAsg (tE X.K G F a) (tG X.K G g) D σc H:=by
 obtain⟨φ,h,σ,o,h',R,rs,e,k⟩:=q;unfold ex at e;obtain⟨⟨x,h1⟩,e1,e⟩:=Res.bind_inv e;dsimp only at e;split at e
 ·rename_i σ1 es;cases e;exact⟨φ,h,σ,x,_,R,rs,e1,λφ1 H1 w x1 R1 r1=>⟨φ1,_,σ,x,σ1,R1,rst.mono x1 rs,r1,es,λσc' rs'=>k φ1 H1 x1 R1 σc' rs'⟩⟩
 ·cases e
theorem v3{iter elt:Expr}{ifs:List Expr}{scope:Scope}{N:List Str}{it:Itr}{src:List (Option Nat)}{g:Tg}{cs:Es}{e:E}{i:Nat}{n:Str}{p cpos:Pos}(hc:X.calm=true)(hi:SI X G F tg iter it)(S:L2.CompScope X scope N src)
  (hg:∀C fp s H,SG (L2.cxComp X scope C fp s H N) G tg g) (ht:∀C fp s H,SC (L2.cxComp X scope C fp s H N) G F ifs cs) (he:∀C fp s H,SE (L2.cxComp X scope C fp s H N) G F elt e)
  (hs:∀x,foldedSetIterable iter X.env x=pure x) (hN:X.N.Nodup) (hn:X.N[i]?=some n) (hx:L2.Loc X.env.scope n) (hf:X.fn n=true\/X.env.scope.names.lookup n=some .local):
  SS X G F (.Assign [.Name n p] (.ListComp elt [⟨tg,iter,ifs,0⟩] scope cpos) pos) (.asg (.name i) (.comp it src g cs e)):=by
 have hsw:swapsWith (.ListComp elt [⟨tg,iter,ifs,0⟩] scope cpos) (some (.Name n p)) pos.line X.env=pure (X.env.blockKind==.function&&X.env.kindOf n==some .local&&p.line==(Expr.ListComp elt [⟨tg,iter,ifs,0⟩] scope cpos).pos.line
   && !(scope.names.any λ(m,k)=>m==n&&(k==.local||k==.cell))):=rfl
 generalize hb:(X.env.blockKind==.function&&X.env.kindOf n==some .local&&p.line==(Expr.ListComp elt [⟨tg,iter,ifs,0⟩] scope cpos).pos.line
   && !(scope.names.any λ(m,k)=>m==n&&(k==.local||k==.cell)))=bb at hsw
 cases bb with
 |true=>
  have hl:X.env.scope.names.lookup n=some .local:=by
   simp only[Bool.and_eq_true]at hb;have z:X.env.kindOf n=some .local:=by simpa using hb.1.1.2
   exact z
  refine je (L2.ps_setcomp (i:=i) (g:=tG X.K G g) (tc:=tB X.K G (evc F cs)) (te:=tE X.K G F e) hc hi S hg ht he hsw hN hn hl hs) λD σc H q=>?_;refine L3 (u9 (Jl q) λv H1 z=>?_);obtain⟨φ,h,σ,w,σ',R,rs,r,es,k⟩:=z;unfold store at es;cases es;exact k _ (zA (R:=ropt φ) (show ropt φ (some w) (some v) from⟨v,rfl,r⟩) i rs)
 |false=>exact je (L2.ps_asg (J5 hc hi S hg ht he hs) (O8 hN hn hx hf) hsw rfl rfl) λ_ _ _=>Jl
noncomputable def qC4:L2.TSet:=λo i v H Q=>L2.rSetL o i v H Q\/∃p H',o=.ref p/\L2.DPut H p i v H'/\Q H'
theorem qAH(hu:X.A.units+8<cLine):L2.PSet X qC4:=by
 intro pins s σ H o i v ov iv u Q I ro ri rv h;rcases h with h|⟨p,H',rfl,g,q⟩
 ·exact L2.set_list pins s σ H o i v ov iv u Q I ro ri rv h
 ·cases ro;exact L2.d_setItem (by omega) I g ri rv λs' I'=>⟨H',I',q⟩
theorem qBg(hu:X.A.units+8<cLine){eo ei:Expr}{o i:E}{p:Pos}(ho:SE X G F eo o)(hi:SE X G F ei i)(ha:SE X G F ea a)(hc:zj ea=true)(hsl:QT ei=true):SS X G F (.Assign [.Subscript eo ei p] ea pos) (.put o i a):=by
 refine je (L2.ps_asg ha (L2.pg_sub ho hi (qAH hu) (λv=>by cases ei<;>first|rfl|cases hsl)) (jX hc) (by cases ea<;>rfl) rfl) λD σc H q=>?_;obtain⟨φ,h,σ,out,h',R,rs,e,k⟩:=q;unfold ex at e;obtain⟨⟨x,h1⟩,e1,e⟩:=Res.bind_inv e;obtain⟨⟨p1,h2⟩,e2,e⟩:=Res.bind_inv e;obtain⟨⟨k1,h3⟩,e3,e⟩:=Res.bind_inv e;refine⟨φ,h,σ,x,h1,R,rs,e1,λφ1 H1 w x1 R1 r1=>?_⟩;refine⟨φ1,h1,σ,p1,h2,R1,rst.mono x1 rs,e2,λφ2 H2 w2 x2 R2 r2=>?_⟩;refine⟨φ2,h2,σ,k1,h3,R2,rst.mono (x1.trans x2) rs,e3,λφ3 H3 w3 x3 R3 r3=>?_⟩;cases p1 with
 |ref q=>
  cases k1 with
  |int j=>
   dsimp only at e;split at e
   ·rename_i xs ex1;split at e
    ·rename_i jj ej;cases e;obtain⟨q1,a',zs,ha',hH,rz⟩:=R3.mut ex1;obtain⟨a2,rfl,ha2⟩:=qK (rv.mono x3 r2);rw[ha']at ha2;cases ha2;cases qB r3;refine .inl ⟨_,zs,j,jj,rfl,rfl,hH,by rw[<-Paired.length rz];exact ej,?_⟩;have xx:Ext φ φ3:=x1.trans (x2.trans x3);exact k φ3 _ xx (R3.set q1 ha' (zA (rv.mono (x2.trans x3) r1) jj rz)) σc (rst.mono xx rs)
    ·cases e
   ·split at e
    ·rename_i kvs ed;split at e
     ·rename_i hf;cases e;obtain⟨a',ea,eh,hH⟩:=R3.dct ed;obtain⟨a2,rfl,ha2⟩:=qK (rv.mono x3 r2);rw[ea]at ha2;cases ha2;cases qB r3;have hl:(kvs.map kk).length<sizeLine:=by rw[wL];exact wC hf.2 QM
      have xx:Ext φ φ3:=x1.trans (x2.trans x3);have fw:=JZ hf.1 r1;subst fw;refine .inr ⟨_,_,rfl,L2.DPut.k (k:=.inl j) hH hl,?_⟩;rw[qAQ];exact k φ3 _ xx (R3.write rfl rfl eh ea qF) σc (rst.mono xx rs)
     ·cases e
    ·cases e
  |_=>cases e
 |_=>cases e
theorem N4(ha:SE X G F ea a)(hc:zj ea=true):SS X G F (.Expr ea pos) (.expr a):=by
 refine je (L2.ps_expr ha (zZ hc)) λD σc H q=>?_;obtain⟨φ,h,σ,out,h',R,rs,e,k⟩:=q;unfold ex at e;obtain⟨⟨x,h1⟩,e1,e⟩:=Res.bind_inv e;cases e;exact⟨φ,h,σ,x,_,R,rs,e1,λφ1 H1 w x1 R1 r1=>k φ1 H1 x1 R1 σc (rst.mono x1 rs)⟩
theorem P9(ha:SE X G F ea a):SS X G F (.Return (some ea) pos) (.ret a):=by
 refine je (L2.ps_ret ha) λD σc H q=>?_;obtain⟨φ,h,σ,out,h',R,rs,e,k⟩:=q;unfold ex at e;obtain⟨⟨x,h1⟩,e1,e⟩:=Res.bind_inv e;cases e;exact⟨φ,h,σ,x,_,R,rs,e1,λφ1 H1 w x1 R1 r1=>k φ1 H1 x1 R1 w r1⟩
theorem qAM:SSs X G F [] .nil:=by
 refine Z1 L2.pss_nil λD σc H q=>?_;obtain⟨φ,h,σ,out,h',R,rs,e,k⟩:=q;unfold exs at e;cases e;exact k φ H (.refl _) R σc rs
theorem T4{st:Stmt}{sts:List Stmt}{s:S}{ss:Ss}(h1:SS X G F st s)(h2:SSs X G F sts ss):SSs X G F (st::sts) (.cons s ss):=by
 refine Z1 (L2.pss_cons h1 h2) λD σc H q=>?_;obtain⟨φ,h,σ,out,h',R,rs,e,k⟩:=q;unfold exs at e;obtain⟨⟨o,h1⟩,e1,e⟩:=Res.bind_inv e;refine⟨φ,h,σ,o,h1,R,rs,e1,λφ1 H1 x1 R1=>?_⟩;cases o with
 |nx σ1=>exact λσc1 rs1=>⟨φ1,h1,σ1,out,h',R1,rs1,e,k.mono x1⟩
 |rt v=>cases e;exact k φ1 H1 x1 R1
 |bk σ1=>cases e;exact k φ1 H1 x1 R1
 |ct σ1=>cases e;exact k φ1 H1 x1 R1
theorem qB4{t u:List Stmt}{st su:Ss}(hc:ST X G F ec c)(ht:SSs X G F t st)(hu:SSs X G F u su):SS X G F (.If ec t u pos) (.ifs c st su):=by
 refine je (L2.ps_if hc ht hu) λD σc H q=>?_;obtain⟨φ,h,σ,out,h',R,rs,e,k⟩:=q;unfold ex at e;obtain⟨⟨x,h1⟩,e1,e⟩:=Res.bind_inv e;refine⟨φ,h,σ,x,h1,R,rs,e1,λφ1 H1 x1 R1=>?_⟩;dsimp only at e;cases x with
 |true=>
  rw[if_pos rfl]at e ⊢;exact⟨φ1,h1,σ,out,h',R1,rst.mono x1 rs,e,k.mono x1⟩
 |false=>
  rw[if_neg (by decide)]at e ⊢;exact⟨φ1,h1,σ,out,h',R1,rst.mono x1 rs,e,k.mono x1⟩
theorem qBE{iter:Expr}{body:List Stmt}{it:Itr}{g:Tg}{sb:Ss}(hx:X.xe=λ_ _=>False)(hc:X.calm=true)(hi:SI X G F tg iter it)(hg:SG X G tg g)(hb:SSs X G F body sb)
  (hs:∀x,foldedSetIterable iter X.env x=pure x):SS X G F (.For tg iter body [] pos) (.for_ g it sb):=by
 refine je (L2.ps_for (by rw[hx];exact PassesOwn.never) hc hi hg hb hs) λD σc H q=>?_;obtain⟨φ,h,σ,out,h',R,rs,e,k⟩:=q;unfold ex at e;obtain⟨⟨s,h1⟩,e1,e⟩:=Res.bind_inv e;refine⟨φ,h,σ,s,h1,R,rs,e1,λφ1 H1 J x1 R1 j1=>?_⟩;dsimp only at e;split at e
 ·rename_i n hn;refine⟨λi m σ' H'=>∃φ' h2 σa,Ext φ1 φ'/\Rl X.K G φ' h2 H'/\rst φ' σa σ'/\JD s g (exs F sb) m i σa h2=.ok (out,h'),⟨n,φ1,h1,σ,.refl _,R1,rst.mono x1 rs,e⟩,?_⟩;rintro i m σ' H' ⟨φ',h2,σa,x2,Ra,rsa,ef⟩;have jj:IsJ X.K φ' s J:=j1.mono x2;cases m with
  |zero=>
   unfold JD at ef;split at ef
   ·rename_i hst;cases ef;exact .inl ⟨jj.stop Ra hst,k φ' H' (x1.trans x2) Ra σ' rsa⟩
   ·cases ef
  |succ m=>
   unfold JD at ef;split at ef
   ·rename_i x h3 hy;split at ef
    ·rename_i σ3 hst;refine .inr ⟨jj.go Ra hy,λσ' H'=>∃φ' h2 σa,Ext φ1 φ'/\Rl X.K G φ' h2 H'/\rst φ' σa σ'/\JD s g (exs F sb) m (i+1) σa h2=.ok (out,h'),λσ2 H2 w=>⟨m,Nat.lt_succ_self _,w⟩,λxv H2 hyl=>?_⟩;obtain⟨φ3,x3,R3,rx⟩:=jj.yld Ra hy hyl;refine⟨φ3,h3,σa,x,σ3,R3,rst.mono x3 rsa,rx,hst,λσc3 rs3=>?_⟩;obtain⟨⟨o,h4⟩,e4,ef⟩:=Res.bind_inv ef;refine⟨φ3,h3,σ3,o,h4,R3,rs3,e4,λφ4 H4 x4 R4=>?_⟩;dsimp only at ef;cases o with
     |nx σ4=>exact λσc4 rs4=>⟨φ4,h4,σ4,x2.trans (x3.trans x4),R4,rs4,ef⟩
     |ct σ4=>exact λσc4 rs4=>⟨φ4,h4,σ4,x2.trans (x3.trans x4),R4,rs4,ef⟩
     |bk σ4=>cases ef;exact k φ4 H4 (x1.trans (x2.trans (x3.trans x4))) R4
     |rt v=>cases ef;exact k φ4 H4 (x1.trans (x2.trans (x3.trans x4))) R4
    ·cases ef
   ·cases ef
 ·cases e
end
def NX{α:Type}(r:Res α):Prop:=∀c h,r≠.exc c h
theorem NX.ok{α:Type}(a:α):NX (.ok a):=λ_ _ z=>nomatch z
theorem NX.st{α:Type}:NX (.stuck:Res α):=λ_ _ z=>nomatch z
theorem NX.nx{α:Type}(r:Res α):NX r.nx:=by cases r<;>(intro c h z;cases z)
theorem NX.bind{α β:Type}{r:Res α}{f:α->Res β}(h:NX r)(k:∀a,NX (f a)):NX (r.bind f):=by
 cases r with
 |ok a=>exact k a
 |exc c h'=>exact absurd rfl (h c h')
 |stuck=>exact NX.st
theorem JJ{x y:V}{f:Int->Int->RV}(h:∀i j,NX (f i j)):NX (A4 x y f):=by
 unfold A4;split
 ·split
  ·exact h _ _
  ·exact NX.st
 ·exact NX.st
theorem JU{x:V}{f:Nat->RV}(h:∀a,NX (f a)):NX (j2 x f):=by
 unfold j2;split
 ·exact h _
 ·exact NX.st
theorem O0{as:List V}{f:V->RV}(h:∀a,NX (f a)):NX (one as f):=by
 unfold one;split
 ·exact h _
 ·exact NX.st
theorem O9{as:List V}{f:V->V->RV}(h:∀a b,NX (f a b)):NX (two as f):=by
 unfold two;split
 ·exact h _ _
 ·exact NX.st
theorem qB2{op:BOp}{x y:V}{h:AH}:NX (z0 op x y h):=by
 unfold z0 newL;cases op<;>try dsimp only<;>(repeat (first|exact NX.ok _|exact NX.st|refine O0 λ_=>?_|refine O9 λ_ _=>?_|refine JU λ_=>?_|refine JJ λ_ _=>?_|split))
theorem f8{op:COp}{x y:V}{h:AH}:NX (G5 op x y h):=by unfold G5;(repeat (first|exact NX.ok _|exact NX.st|split))
theorem qBR{f:BF}{as:List V}{h:AH}:NX (qAj f as h):=by
 unfold qAj newL;cases f<;>try dsimp only<;>(repeat (first|exact NX.ok _|exact NX.st|refine O0 λ_=>?_|refine O9 λ_ _=>?_|refine JU λ_=>?_|refine JJ λ_ _=>?_|split))
theorem y4{m:Mt}{p:Nat}{ys:List V}{h:AH}:NX (zt m p ys h):=by unfold zt;(repeat (first|exact NX.ok _|exact NX.st|refine O0 λ_=>?_|refine O9 λ_ _=>?_|refine JU λ_=>?_|refine JJ λ_ _=>?_|split))
theorem QJ{r:RV}(h:NX r):NX (asB r):=by
 unfold asB;refine NX.bind h λa=>?_
 (repeat (first|exact NX.ok _|exact NX.st|split))
theorem ZE{s:Src}{g:Tg}{c:St->AH->Res (Bool×AH)}{e:St->AH->RV}{D:Nat}(hc:∀σ h,NX (c σ h))(he:∀σ h,NX (e σ h)):∀(n i:Nat) (ys:List V) (σ:St) (h:AH),NX (jw s g c e D n i ys σ h)
 | 0,i,ys,σ,h=>by unfold jw;(repeat (first|exact NX.ok _|exact NX.st|split))
 |n+1,i,ys,σ,h=>by
  unfold jw;split
  ·split
   ·refine NX.bind (hc _ _) λa=>?_
    try dsimp only
    split
    ·refine NX.bind (he _ _) λb=>?_
     try dsimp only
     split
     ·exact ZE hc he n _ _ _ _
     ·exact NX.st
    ·split
     ·exact ZE hc he n _ _ _ _
     ·exact NX.st
   ·exact NX.st
  ·exact NX.st
section
variable (F:Nat->List V->AH->RV)
mutual
theorem qa:∀(e:E) (σ:St) (h:AH),NX (ev F e σ h)
 | .var i,σ,h=>by unfold ev;(repeat (first|exact NX.ok _|exact NX.st|split))
 | .cst v,σ,h=>by unfold ev;(repeat (first|exact NX.ok _|exact NX.st|split))
 | .glob g,σ,h=>by unfold ev;(repeat (first|exact NX.ok _|exact NX.st|split))
 | .bin op a b,σ,h=>by unfold ev;exact NX.bind (qa a σ h) λ_=>NX.bind (qa b σ _) λ_=>qB2
 | .neg a,σ,h=>by unfold ev;refine NX.bind (qa a σ h) λ_=>?_;(repeat (first|exact NX.ok _|exact NX.st|split))
 | .cmp op a b,σ,h=>by unfold ev;exact NX.bind (qa a σ h) λ_=>NX.bind (qa b σ _) λ_=>f8
 | .cmp2 o1 o2 a b c,σ,h=>by
  unfold ev;refine NX.bind (qa a σ h) λ_=>NX.bind (qa b σ _) λ_=>?_
  (try dsimp only);split
  ·exact NX.bind (qa c σ _) λ_=>f8
  ·exact NX.ok _
  ·exact NX.st
 | .and a b,σ,h=>by unfold ev;refine NX.bind (QJ (qa a σ h)) λ_=>?_;(try dsimp only);split;exact qa b σ _;exact NX.ok _
 | .or a b,σ,h=>by unfold ev;refine NX.bind (QJ (qa a σ h)) λ_=>?_;(try dsimp only);split;exact NX.ok _;exact qa b σ _
 | .not a,σ,h=>by unfold ev;exact NX.bind (QJ (qa a σ h)) λ_=>NX.ok _
 | .ite c a b,σ,h=>by unfold ev;refine NX.bind (QJ (qa c σ h)) λ_=>?_;(try dsimp only);split;exact qa a σ _;exact qa b σ _
 | .call f as,σ,h=>by unfold ev;exact NX.bind (za as σ h) λ_=>NX.nx _
 | .blt f as,σ,h=>by unfold ev;exact NX.bind (za as σ h) λ_=>qBR
 | .isi a ts,σ,h=>by unfold ev;refine NX.bind (qa a σ h) λ_=>?_;(repeat (first|exact NX.ok _|exact NX.st|split))
 | .idx a b,σ,h=>by unfold ev;refine NX.bind (qa a σ h) λ_=>NX.bind (qa b σ _) λ_=>?_;(repeat (first|exact NX.ok _|exact NX.st|split))
 | .sl a lo hi,σ,h=>by unfold ev newL newT;refine NX.bind (qa a σ h) λ_=>NX.bind (za lo σ _) λ_=>NX.bind (za hi σ _) λ_=>?_;(repeat (first|exact NX.ok _|exact NX.st|split))
 | .lst as,σ,h=>by unfold ev newL;refine NX.bind (za as σ h) λ_=>?_;(repeat (first|exact NX.ok _|exact NX.st|split))
 | .tup as,σ,h=>by unfold ev newT;refine NX.bind (za as σ h) λ_=>?_;(repeat (first|exact NX.ok _|exact NX.st|split))
 | .comp it src g c e,σ,h=>by
  unfold ev;refine NX.bind (K5 it σ h) λ_=>?_
  (try dsimp only);split
  ·exact ZE (qBX c) (qa e) _ _ _ _ _
  ·exact NX.st
 | .app a b,σ,h=>by
  unfold ev;refine NX.bind (qa a σ h) λ_=>?_
  (try dsimp only);split
  ·split
   ·refine NX.bind (qa b σ _) λ_=>?_
    (repeat (first|exact NX.ok _|exact NX.st|split))
   ·exact NX.st
  ·exact NX.st
 | .dnew,σ,h=>by unfold ev;(repeat (first|exact NX.ok _|exact NX.st|split))
 | .meth m a as,σ,h=>by
  unfold ev;refine NX.bind (qa a σ h) λ_=>?_
  (try dsimp only);split
  ·split
   ·exact NX.bind (za as σ _) λ_=>y4
   ·exact NX.st
  ·exact NX.st
theorem za:∀(as:Es) (σ:St) (h:AH),NX (evs F as σ h)
 | .nil,σ,h=>by unfold evs;exact NX.ok _
 | .cons a as,σ,h=>by unfold evs;exact NX.bind (qa a σ h) λ_=>NX.bind (za as σ _) λ_=>NX.ok _
theorem qBX:∀(as:Es) (σ:St) (h:AH),NX (evc F as σ h)
 | .nil,σ,h=>by unfold evc;exact NX.ok _
 | .cons a _,σ,h=>by unfold evc;exact QJ (qa a σ h)
theorem K5:∀(it:Itr) (σ:St) (h:AH),NX (evi F it σ h)
 | .list a,σ,h=>by unfold evi;refine NX.bind (qa a σ h) λ_=>?_;(repeat (first|exact NX.ok _|exact NX.st|split))
 | .rng1 a,σ,h=>by unfold evi;refine NX.bind (qa a σ h) λ_=>?_;(repeat (first|exact NX.ok _|exact NX.st|split))
 | .zip a b,σ,h=>by unfold evi;refine NX.bind (qa a σ h) λ_=>NX.bind (qa b σ _) λ_=>?_;(repeat (first|exact NX.ok _|exact NX.st|split))
 | .enum a,σ,h=>by unfold evi;refine NX.bind (qa a σ h) λ_=>?_;(repeat (first|exact NX.ok _|exact NX.st|split))
end
mutual
noncomputable def S.calm:S->Bool
 | .ifs _ t u=>t.calm&&u.calm
 | .for_ _ _ b=>b.calm
 | .xexpr _ _=>false
 | .raise _=>false
 | .tryK _ _ _ _ _=>true
 | .xasg _ _ _=>false
 | .xret _ _=>false
 | .xrn _ _ _=>false
 |_=>true
noncomputable def Ss.calm:Ss->Bool
 | .nil=>true
 | .cons s r=>s.calm&&r.calm
end
theorem Je{s:Src}{g:Tg}{b:St->AH->RS}(hb:∀σ h,NX (b σ h)):∀(n i:Nat) (σ:St) (h:AH),NX (JD s g b n i σ h)
 | 0,i,σ,h=>by unfold JD;(repeat (first|exact NX.ok _|exact NX.st|split))
 |n+1,i,σ,h=>by
  unfold JD;split
  ·split
   ·refine NX.bind (hb _ _) λa=>?_
    try dsimp only
    split
    ·exact Je hb n _ _ _
    ·exact Je hb n _ _ _
    ·exact NX.ok _
    ·exact NX.ok _
   ·exact NX.st
  ·exact NX.st
mutual
theorem qBs:∀(s:S),s.calm=true->∀(σ:St) (h:AH),NX (ex F s σ h)
 | .asg g e,_,σ,h=>by unfold ex;refine NX.bind (qa F e σ h) λ_=>?_;(repeat (first|exact NX.ok _|exact NX.st|split))
 | .put o i v,_,σ,h=>by unfold ex;refine NX.bind (qa F v σ h) λ_=>NX.bind (qa F o σ _) λ_=>NX.bind (qa F i σ _) λ_=>?_;(repeat (first|exact NX.ok _|exact NX.st|split))
 | .expr e,_,σ,h=>by unfold ex;exact NX.bind (qa F e σ h) λ_=>NX.ok _
 | .ret e,_,σ,h=>by unfold ex;exact NX.bind (qa F e σ h) λ_=>NX.ok _
 | .ifs c t u,hc,σ,h=>by
  unfold S.calm at hc;rw[Bool.and_eq_true]at hc;unfold ex;refine NX.bind (QJ (qa F c σ h)) λ_=>?_
  (try dsimp only);split
  ·exact B5 t hc.1 _ _
  ·exact B5 u hc.2 _ _
 | .for_ g it b,hc,σ,h=>by
  unfold S.calm at hc;unfold ex;refine NX.bind (K5 F it σ h) λ_=>?_
  (try dsimp only);split
  ·exact Je (B5 b hc) _ _ _ _
  ·exact NX.st
 | .stop,_,σ,h=>by unfold ex;exact NX.st
 | .xexpr f as,hc,σ,h=>by unfold S.calm at hc;cases hc
 | .raise c,hc,σ,h=>by unfold S.calm at hc;cases hc
 | .xasg i f as,hc,σ,h=>by unfold S.calm at hc;cases hc
 | .xret f as,hc,σ,h=>by unfold S.calm at hc;cases hc
 | .xrn o f as,hc,σ,h=>by unfold S.calm at hc;cases hc
 | .tryK b e i m ks,_,σ,h=>by
  unfold ex
  try dsimp only
  split
  ·split
   ·exact NX.ok _
   ·exact NX.st
  ·rename_i q;intro c h' z;exact q c h' z
theorem B5:∀(s:Ss),s.calm=true->∀(σ:St) (h:AH),NX (exs F s σ h)
 | .nil,_,σ,h=>by unfold exs;exact NX.ok _
 | .cons s r,hc,σ,h=>by
  unfold Ss.calm at hc;rw[Bool.and_eq_true]at hc;unfold exs;refine NX.bind (qBs s hc.1 σ h) λ_=>?_
  (try dsimp only);split
  ·exact B5 r hc.2 _ _
  ·exact NX.ok _
end
end
open L2 (Un HOk ObjOk frs CXT XK)
theorem Jh{P:Program}{w:World}{H:Hp}{h:Heap}{a:Addr}{o:HO}(x:ObjOk P w H h a o):∃u,h.get? a=some u:=by
 induction o with
 |lst xs=>obtain⟨z,its,n,r,e⟩:=x;exact⟨_,e⟩
 |tup xs=>obtain⟨z,its,r,ob,e,c⟩:=x;exact⟨_,e⟩
 |dK kvs=>obtain⟨_,_,vs,_,o,es,ep,h1,_⟩:=x;exact⟨_,h1⟩
 |dT kvs=>obtain⟨_,_,xs,_,o,es,ep,h1,_⟩:=x;exact⟨_,h1⟩
 |set S n=>obtain⟨o,_,_,_,e,_⟩:=x;exact⟨_,e⟩
 |ins C dx fs=>obtain⟨_,_,_,h1,_⟩:=x;exact⟨_,h1⟩
 |own y=>exact x
 |xd fs=>obtain⟨mA,⟨o,es,ep,h1,_⟩,_⟩:=x;exact⟨_,h1⟩
 |met f y=>exact⟨_,x⟩
 |rng lo hi=>obtain⟨t,u,v,e⟩:=x;exact⟨_,e⟩
 |frz o u ih=>exact⟨_,x.1⟩
 |tbl ps=>exact⟨_,x⟩
 |ext φ=>exact x.2.1
def Cov(l:List Env)(s:Heap)(H':Hp)(B h:Heap):Prop:=∀b o,h.get? b=some o->b∉frs l->((∃o',s.get? b=some o')\/H' b≠none)->B.get? b=some o
theorem stay{P:Program}{w:World}{l:List Env}{H H':Hp}{s h h' B base:Heap}(un:Un (frs l) [] H H' s h)(hok:HOk P w H' h)(cov:Cov l s H' B h)(hs:B.StaysIn h')(up:h.UpToSlots h')(fre:∀b∈frs l,H' b=none)(ff:h.FunFrames base l):
  Un (frs l) [] H H' s h'/\HOk P w H' h'/\Cov l s H' B h':=by
 have nof:∀b∈frs l,∀o,h.get? b=some o->∃sl,h'.get? b=some { o with slots:=sl }:=λb hb o e=>by
  obtain⟨_,o1,e1,nf⟩:=ff.mem hb;rw[e]at e1;cases e1;exact up b o e nf
 have tr:∀b o,H' b≠none->h.get? b=some o->h'.get? b=some o:=λb o hb e=>hs _ _ (cov b o e (λz=>hb (fre b z)) (.inr hb));refine⟨⟨λb o q n hb _=>?_,λb o q n hb hx=>?_,λb o q n hx=>un.free b o q n hx,λb o q hx=>?_,un.tups,un.frzs,un.tbls⟩,λa o e=>?_,λb o e hb c=>?_⟩
 ·exact hs _ _ (cov b o (un.keep b o q n hb (by simp)) hb (.inl ⟨o,q⟩))
 ·obtain⟨sl,e⟩:=un.slot b o q n hb hx;obtain⟨sl2,e2⟩:=nof b hb _ e;exact⟨sl2,e2⟩
 ·obtain⟨o',e⟩:=un.there b o q hx;by_cases hb:b∈frs l
  ·obtain⟨sl,e2⟩:=nof b hb _ e;exact⟨_,e2⟩
  ·exact⟨o',hs _ _ (cov b o' e hb (.inl ⟨o,q⟩))⟩
 ·refine(hok a o e).stay (λb u hb q=>tr b u ?_ q) (λb q=>q) λb xs q=>q;rcases hb with rfl|z
  ·rw[e];simp
  ·rw[z];simp
 ·have:∃o',h.get? b=some o':=by
   rcases c with⟨o1,q⟩|hb'
   ·exact un.there b o1 q (by simp)
   ·cases q:H' b with
    |none=>exact absurd q hb'
    |some u=>exact Jh (hok b u q)
  obtain⟨o',e'⟩:=this;have z:=cov b o' e' hb c;rw[hs _ _ z]at e;cases e;exact z
structure Fly(P:Program)(w:World)(l:List Env)(H:Hp)(s:Shared)(C ea:Addr)(H':Hp)(s':Shared):Prop where
 os:s'.os=s.os
 bare:AllBare s'.gens
 un:Un (frs l) [] H H' s.heap s'.heap
 hok:HOk P w H' s'.heap
 fl:∃B a0,Heap.FlyingW B l ea (.ref C) a0 s'.heap/\Cov l s.heap H' B s'.heap
noncomputable def CX1(P:Program)(w:World):CXT:=λouter H s E e s'=>∃ea C H',e=.ref ea/\Fly P w outer H s C ea H' s'/\E (.ref C) none H'
section
variable{X:Cx}{pins:List (Addr×Obj)}{σ:L2.St}{H H':Hp}{s s':Shared}
theorem ofs(I:Inv X pins σ H s)(hst:X.stack=X.env::X.outer)(hf:X.env.frame=some X.env.locals){b:Addr}(hb:b∈frs X.stack):b=X.env.locals\/b∈X.fs:=by
 rw[hst]at hb;unfold frs at hb;rw[wR,hf]at hb;exact List.mem_cons.mp hb
theorem g8{h' B:Heap}{C ea:Addr}{a0:Value}(I:Inv X pins σ H s)(hst:X.stack=X.env::X.outer)(hf:X.env.frame=some X.env.locals)(hex:X.ex=[])(os:s'.os=s.os)(bare:AllBare s'.gens)(un:Un (frs X.stack) [] H H' s.heap h')(hok:HOk X.prog X.w H' h')(cov:Cov X.stack s.heap H' B h')
  (fl:Heap.FlyingW B X.outer ea (.ref C) a0 h'):Fly X.prog X.w X.outer X.H₀ X.s₀ C ea H' { s' with heap:=h' }:=by
 have I':Inv X pins σ H' { s' with heap:=h' }:=I.call' os un hok bare (λb z=>absurd z (by simp));have b0:=I'.base;rw[hex]at b0;refine⟨I'.os,bare,b0,hok,B,a0,fl,λb o e hb c=>?_⟩;refine cov b o e (λz=>?_) ?_
 ·rcases ofs I hst hf z with rfl|z
  ·rcases c with⟨o',q⟩|q
   ·exact absurd (Heap.lt_size q) (Nat.not_lt.mpr I.ok.above)
   ·exact q I'.free
  ·exact hb z
 ·rcases c with⟨o',q⟩|q
  ·exact .inl (I.base.there b o' q (by rw[hex];simp))
  ·exact .inr q
theorem Ji{h base:Heap}{fs:List Addr}:∀{l:List Env},(∀b∈frs l,b∈fs)->h.FunFrames base l->h.FunFrames (PySem.W.hideAll h fs) l
 | [],_,_=>trivial
 |env::l,hs,⟨k,⟨L,o,f,_,e,n⟩,r⟩=>⟨k,⟨L,o,f,PySem.W.hideAll_none fs (hs L (by unfold frs;rw[wR,f];exact List.mem_cons_self ..)),e,n⟩,Ji (λb hb=>hs b (by
  unfold frs at hb ⊢;rw[wR,f];exact List.mem_cons_of_mem _ hb)) r⟩
theorem Jc{h1:Heap}{C ea:Addr}{vs:List Value}{E:Value->Shared->Prop}(I:Inv X pins σ H s)(hst:X.stack=X.env::X.outer)(hf:X.env.frame=some X.env.locals)(hex:X.ex=[])(hm:Heap.MadeExcOf s.heap h1 ea (.ref C) vs):
  wpAny (model X.prog X.w) X.A (leaving X.env (.ref ea)) (λ_ s''=>Fly X.prog X.w X.outer X.H₀ X.s₀ C ea H s'') E { s with heap:=h1 }:=by
 have fr:=I.ok.frames;rw[hst]at fr;have ff:=I.stack;have fh:s.heap.FunFrames (PySem.W.hideAll s.heap (frs X.stack)) (X.env::X.outer):=by rw[<-hst];exact Ji (λb hb=>hb) ff
 refine wpAny_leaves_madeW (base:=PySem.W.hideAll s.heap (frs X.stack)) (h:=s.heap) fr hf (λb o e=>PySem.W.of_hideAll _ e) fh hm λh' t fl _ _ up=>?_;have ff1:h1.FunFrames X.base X.stack:=ff.of_keeps λb o e _=>⟨o,hm.keeps b o e,rfl⟩
 have cov:Cov X.stack s.heap H (PySem.W.hideAll s.heap (frs X.stack)) h1:=λb o e hb c=>by
  have:∃o',s.heap.get? b=some o':=by
   rcases c with c|c
   ·exact c
   ·cases q:H b with
    |none=>exact absurd q c
    |some u=>exact Jh (I.hok b u q)
  obtain⟨o',e'⟩:=this;rw[hm.keeps b o' e']at e;cases e;exact PySem.W.hideAll_get _ e' hb
 obtain⟨u,k,c⟩:=stay (Un.kept hm.keeps) (I.hok.kept hm.keeps) cov fl.1 up I.stkFree ff1;exact g8 (s':={ s with heap:=h1 }) I hst hf hex rfl I.bare u k c fl
theorem E9{C ea:Addr}{E:Value->Shared->Prop}(I:Inv X pins σ H s)(hst:X.stack=X.env::X.outer)(hf:X.env.frame=some X.env.locals)(hex:X.ex=[])(F:Fly X.prog X.w X.stack H s C ea H' s'):
  wpAny (model X.prog X.w) X.A (leaving X.env (.ref ea)) (λ_ s''=>Fly X.prog X.w X.outer X.H₀ X.s₀ C ea H' s'') E s':=by
 obtain⟨B,a0,fl,cov⟩:=F.fl;have fr:=I.ok.frames;have fl0:=fl;rw[hst]at fr fl;refine wpAny_leaves_onW fr hf fl λh' fl' up=>?_;have fre:∀b∈frs X.stack,H' b=none:=λb hb=>by
  obtain⟨_,o,e,_⟩:=I.stack.mem hb;exact F.un.free b o e (I.stkFree b hb) (by simp)
 obtain⟨u,k,c⟩:=stay F.un F.hok cov fl'.1 up fre fl0.2.2.1;exact g8 (s':=s') I hst hf hex F.os F.bare u k c fl'
end
open PySem.W PySem.Builtin PySem.Builtin.ObjectAttr PySem.Builtin.Getset_descriptor
section
variable{K:Frag}{prog:Program}{w:World}{A:Around}{E:Value->Shared->Prop}{x D:Addr}{ox:Obj}{h:Heap}{g:Array GenState}{d:Drawn}{t:Nat}{os:OsState}
theorem qCG{R:Result->Shared->Prop}{ty:Value}(X:K.In h)(hx:h.get? x=some ox)(hc:ox.cls=.ref D)(hm:mroIn K D (.type "object")=some true)(fin:R (.ok (.ret (.ref D))) ⟨h,g,d,t,os⟩):
  codeAny (model prog w) A (.call (.builtin "getset_descriptor.__get__") ⟨[.builtin "object.__class__",.ref x,ty],[]⟩) R ⟨h,g,d,t,os⟩:=by
 have ty0:Looks (model prog w) h (typeOf (.ref x)) (.ref D):=hc ▸ (Looks.ld hx).andThen .now;have mr:=looks_mroIn (M:=model prog w) X hm;refine codeAny_call_builtin KF.slot_gs.plain KF.entry_gs (KF.slot_gs.check _ _ _ _ _ _ _ _ KF.type_class (KF.args_gs _ _ _) ?_);unfold Builtin.«getset_descriptor.__get__» descrGet;rw[dga_obj];refine vB (vC ?_);unfold descrGetter descrCheckInstance descrNameAndClass isInstance;simp only[KF.owner_class]
 repeat lk
 refine⟨Code.quiet_builtin _ (by decide +kernel),codeAny_builtin KF.entry_class ?_⟩;unfold Builtin.«object.__class__» shownTypeOf;repeat lk
 exact fin
theorem X4{tk:Tok}{Q:Fin->Shared->Prop}(X:K.In h)(hx:h.get? x=some ox)(hc:ox.cls=.ref D)(ha:findIn K (.ref D) "__class__"=some (some (.builtin "object.__class__")))(hm:mroIn K D (.type "object")=some true)(fin:Q (.done (.ret (.ref D))) ⟨h,g,d,t,os⟩):
  wpAny (model prog w) A (Builtin.«object.__getattribute__» ⟨[.ref x,.str "__class__" tk],[]⟩) Q E ⟨h,g,d,t,os⟩:=by
 have g1:(⟨h,g,d,t,os⟩:Shared).TypeIs (.builtin "object.__class__") "getset_descriptor":=F.typeOf_object_class;have g2:=F.typeOf_object_class;have g3:=F.slot_gs_get.lookup;have g4:=F.slot_gs_set.lookup;have g5:=looks_findIn (M:=model prog w) X ha
 repeat (any_goals (first|assumption|(with_reducible refine wpAny_loadPart_at hx ?_;rw[hc])|with_reducible refine g5.at ?_|wp_step))
 refine qCG X hx hc hm ?_
 repeat (any_goals (first|assumption|wp_step))
theorem U3{M:Model}{nv:Value}{Q:Unit->Shared->Prop}(X:K.In h)(hx:h.get? x=some ox)(hc:ox.cls=.ref D)(hb:mroIn K D (.type "BaseException")=some true)(fin:Q () ⟨h,g,d,t,os⟩):
  wpAny M A (checkBuiltinCall "BaseException.__getattribute__" ⟨[.ref x,nv],[]⟩) Q E ⟨h,g,d,t,os⟩:=by
 have k1:builtinKind "BaseException.__getattribute__"=some .slot:=by decide +kernel
 have k2:splitId "BaseException.__getattribute__"=some ("BaseException","__getattribute__"):=by decide +kernel
 have k3:=F.args_bexc_ga (.ref x) nv;have k4:=looks_mroIn (M:=M) X hb;simp only[checkBuiltinCall,k1,k2];refine vB ?_;unfold isInstance
 repeat (first|(with_reducible refine wpAny_loadPart_at hx ?_;rw[hc])|with_reducible refine k4.at ?_|wp_step)
 exact fin
structure G6(K:Frag)(D:Addr):Prop where
 cl:∃cd,clsIn K D=some cd
 ca:findIn K (.ref D) "__class__"=some (some (.builtin "object.__class__"))
 mo:mroIn K D (.type "object")=some true
 mb:mroIn K D (.type "BaseException")=some true
 ga:findIn K (.ref D) "__getattribute__"=some (some (.builtin "BaseException.__getattribute__"))
 gn:findIn K (.ref D) "__getattr__"=some none
 ex:excIn K D [.type "ValueError",.type "Exception",.type "BaseException",.type "object"] "ValueError.__new__"=true
theorem qCg{tk:Tok}{qDg ex:Bool}{Q:Value->Shared->Prop}(X:K.In h)(c:G6 K D)(hx:h.get? x=some ox)(hc:ox.cls=.ref D)(fin:Q (.ref D) ⟨h,g,d,t,os⟩):wpAny (model prog w) A (getAttrBy (.ref x) (.str "__class__" tk) qDg ex) Q E ⟨h,g,d,t,os⟩:=by
 have e3:=F.excAttr_ValueError.ga.bind (.ref x);have e4:(ex&&onTheHeap (Value.builtin "BaseException.__getattribute__"))=false:=by cases ex<;>rfl
 have e5:(Value.builtin "BaseException.__getattribute__"==Value.builtin "object.__getattribute__")=false:=by decide +kernel
 have e6:(onTheHeap (Value.ref D)&&Value.builtin "BaseException.__getattribute__"==Value.builtin "object.__getattribute__")=false:=by rw[e5];rfl
 have e7:=looks_findIn (M:=model prog w) X c.ga;have e8:=looks_findIn (M:=model prog w) X c.gn
 repeat (any_goals (first|assumption|(with_reducible refine wpAny_loadPart_at hx ?_;rw[hc])|with_reducible refine e7.at ?_|with_reducible refine e8.at ?_|wp_step))
 refine codeAny_call_builtin F.excAttr_ValueError.ga.plain F.entry_bexc_ga (U3 X hx hc c.mb (X4 X hx hc c.ca c.mo ?_))
 repeat (any_goals (first|assumption|wp_step))
theorem W0{Q:Option Value->Shared->Prop}(X:K.In h)(c:G6 K D)(hx:h.get? x=some ox)(hc:ox.cls=.ref D)(fin:Q (some (.ref D)) ⟨h,g,d,t+1,os⟩):wpAny (model prog w) A (getAttr? (.ref x) "__class__") Q E ⟨h,g,d,t,os⟩:=by
 unfold getAttr? getAttrBy?
 repeat (any_goals (first|assumption|with_reducible apply qCg X c hx hc|wp_step))
theorem qAW(c:G6 K D):KitX K (.ref x) (.ref D) (λh=>∃ox,h.get? x=some ox/\ox.cls=.ref D) where
 ty:=λ_ _ _ ⟨ox,hx,hc⟩=>hc ▸ (Looks.ld hx).andThen .now
 it:=λ_ _ X _=>by
  obtain⟨cd,hcd⟩:=c.cl;unfold clsIn at hcd;split at hcd
  ·rename_i ho;intro A2 Q2 E2 s2 k2 q2;unfold isType loadHead;exact vB (wpAny_loadPart (k2 _ _ (X _ _ ho)) (vC q2))
  ·cases hcd
 ne:=λh tp dd its n sl X htp=>by
  obtain⟨cd,hcd⟩:=c.cl;refine Bool.eq_false_iff.mpr λq=>?_;cases Value.ref.inj (beq_iff_eq.mp q);unfold clsIn at hcd;split at hcd
  ·rename_i ho;cases (X _ _ ho).symm.trans htp
  ·cases hcd
 ca:=λ{_ _ _ _ _ s} X ⟨ox,hx,hc⟩ k=>by obtain⟨h,g,d,t,os⟩:=s;exact W0 X c hx hc k
theorem qAY{h:Heap}{C:Addr}{bmB:List Value}{nid:String}(X:K.In h)(q:excIn K C bmB nid=true):∃bm N nm qn bs hd sn sb ab col dd k0 k1 k2 k3 k5 mN,h.get? C=some (excClassObj nm qn C N bs bm hd sn sb ab col dd k0 k1 k2 k3 k5 nid)/\h.Ns N mN/\mN "__init__"=none/\OwnTail h bmB bm:=by
 unfold excIn at q;split at q
 ·rename_i dd cd sl ho;split at q
  ·rename_i C2 bm k0 k1 k2 k3 n k5 hm hs;simp only[Bool.and_eq_true,beq_iff_eq,Bool.not_eq_true']at q;obtain⟨⟨⟨⟨⟨rfl,rfl⟩,hdl⟩,htl⟩,hno⟩,hin⟩:=q;obtain⟨nm,bs,mro,ns,qn,hd,sn,sb,ab,col,dl⟩:=cd;dsimp only at hm hdl hno hin;subst hm hdl;have e6:sl=#[k0,k1,k2,k3,some (.builtin n),k5]:=by obtain⟨l⟩:=sl;simp only at hs;rw[hs]
   subst e6;exact⟨bm,ns,nm,qn,bs,hd,sn,sb,ab,col,dd,k0,k1,k2,k3,k5,_,X _ _ ho,.of_isNs (isNs_of_in X hno),nsMap_none_of_in X hno hin,tail_of_in X htl⟩
  ·cases q
 ·cases q
end
section
variable{X:Cx}{pins:List (Addr×Obj)}{σ:L2.St}{H H':Hp}{s s':Shared}
theorem U9{x:Str}{C:Addr}{v:Str}{np p cpos pos:Pos}{j:Nat}{Q:Flow->Shared->Prop}(hg:L2.Gl X x)(hm:X.mg x=some (.ref C))(hd:(x==("__debug__":Str))=false)(hc:X.calm=true)(c:G6 X.K C)(I:Inv X pins σ H s)
  (k:∀s2 h1 ea vs,Inv X pins σ H s2->Heap.MadeExcOf s2.heap h1 ea (.ref C) vs->X.xe (.ref ea) { s2 with heap:=h1 }):wpAny (model X.prog X.w) X.A (exec (.Raise (some (.Call (.Name x np) [.Constant (.str v) j p] [] cpos)) none pos) X.env) Q X.xe s:=by
 obtain⟨bm,N,nm,qn,bs,hdc,sn,sb,ab,col,dd,k0,k1,k2,k3,k5,mN,hC,hN,hni,T⟩:=qAY I.mod.kin c.ex;have st:starEach [Expr.Constant (.str v) j p] X.env=(false,eval (.Constant (.str v) j p) X.env)::starEach [] X.env:=rfl;refine wpAny_Raise_call_subT (C:=C) (bm:=bm) (nm:=nm) (q:=qn) (N:=N) (bs:=bs) (hdct:=hdc) (sn:=sn) (sub:=sb) (ab:=ab) (col:=col) (dd:=dd) (k0:=k0) (k1:=k1) (k2:=k2) (k3:=k3) (k5:=k5) F.excBase_ValueError (mN:=mN) (T.hasType F.excBase_ValueError.hasBase) (I.ok.hd hc) rfl hni (L2.ld_glob I hg hm ⟨rfl,?_⟩ hd);refine Calls.evalArgs_plain (wpAny_mono (L2.pa_cons (X:=X) L2.pe_str L2.pa_nil st cpos pins s σ H (λws H1=>ws.length=1/\H1=H) I ⟨rfl,rfl⟩) (λus s2 ⟨ws,H1,I1,r1,l1,e1⟩=>?_) λ_ _ y=>y);subst e1;exact⟨rfl,by rw[<-r1.length,l1];decide,I1.bk _ _ hC,hN.keeps I1.bk,T.keeps I1.bk,λh1 e hm=>k s2 h1 e _ I1 hm⟩
end
noncomputable def XE(X:Cx)(ea:Addr)(oe:Obj)(E:Value->Shared->Prop):Cx:={ X with A:=X.A.mark (some (.ref ea)),calm:=false,pn:=(ea,oe)::X.pn,xe:=E }
section
variable{X:Cx}{pins:List (Addr×Obj)}{σ:L2.St}{H H':Hp}{s s':Shared}{ea:Addr}{oe:Obj}{E:Value->Shared->Prop}
theorem qAn(I:Inv X pins σ H s)(h1:s.heap.get? ea=some oe)(h2:H ea=none)(h3:ea≠X.env.locals)(h4:ea∉X.fs)(h5:∀v,oe.data≠.cell v):Inv (XE X ea oe E) pins σ H s:=
 ⟨⟨I.ok.mod,I.ok.kind,I.ok.glob,I.ok.blt,I.ok.above,I.ok.inj,I.ok.has,I.ok.cab,(λz=>nomatch z),I.ok.frames,I.ok.stk,I.ok.exf,I.ok.bs,I.ok.bsz,I.ok.noex,I.ok.exfs,I.ok.funs,I.ok.frf⟩,I.os,I.bare,I.base,I.loc,I.cell,I.free,I.freeC,λp hp=>by
  have hp:p∈(ea,oe)::(X.pn++pins):=hp;rcases List.mem_cons.mp hp with rfl|hp
  ·exact⟨h1,h2,h3,h4,h5⟩
  ·exact I.pin p hp,I.hok,I.len⟩
theorem qCs(ok:X.Ok)(I:Inv (XE X ea oe E) pins σ H s):Inv X pins σ H s:=
 ⟨ok,I.os,I.bare,I.base,I.loc,I.cell,I.free,I.freeC,λp hp=>I.pin p (List.mem_cons_of_mem _ hp),I.hok,I.len⟩
theorem qEH(I:Inv (XE X ea oe E) pins σ H s):s.heap.get? ea=some oe:=(I.pin (ea,oe) (List.mem_cons_self ..)).1
def rXi(ea:Addr)(cv:V)(b:Bool):List V->Hp->VK->Prop:=λxs H Q=>xs=[.ref ea,cv]/\Q (.bl b) H
theorem C5{C:Addr}{cv:V}{u:Value}{b:Bool}(c:G6 X.K C)(hc:oe.cls=.ref C)(hu:∀w,RelV cv w->w=u)(hk:kitOne X.K (.ref C) u=some b):qr (XE X ea oe E) (.builtin "isinstance") (rXi ea cv b):=by
 intro pins s σ H xs us Q I r ⟨e,q⟩;subst e;obtain⟨u1,u2,rfl,r1,r2⟩:=L2.vals2 r;cases (show u1=Value.ref ea from r1);cases hu u2 r2;exact kia_one (qAW c) I.kIn ⟨oe,qEH I,hc⟩ hk (λz=>nomatch z) λtk=>⟨.bl b,H,I.tok tk,rfl,q⟩
theorem qAX{M:Model}{A:Around}{n:Str}{i:Nat}{pos:Pos}{Q:Unit->Shared->Prop}(I:Inv X pins σ H s)(hN:X.N.Nodup)(hi:X.N[i]?=some n)(hk:X.env.scope.names.lookup n=some .local)(k:∀s',Inv X pins (σ.set i none) H s'->Q () s'):
  wpAny M A (do bindName X.env n .none;unbindBehindTheSuite X.env n pos) Q E s:=by
 obtain⟨m,hn,hl⟩:=id I.loc;have cl:(X.env.scope.kind==.class||(X.env.scope.kind==.module&&X.env.locals != X.env.globals))=false:=by rw[I.ok.kind];rfl
 refine wpAny_nameGoes_keeps hk hn cl λh1 v hn1 hs=>k _ ?_;have old:∀b o,X.s₀.heap.get? b=some o->b≠X.env.locals:=λb o e=>wJ (wC (Heap.lt_size e) I.ok.above);refine⟨I.ok,I.os,I.bare,⟨λb o e q hb hx=>(hs.2 b (old b o e)).trans (I.base.keep b o e q hb hx),λb o e q hb hx=>?_,I.base.free,λb o e hx=>?_,I.base.tups,I.base.frzs,I.base.tbls⟩,⟨_,hn1,λj y v2 e1 e2 e3=>?_⟩,λy c e=>?_,I.free,I.freeC,λp hp=>?_,λb u e=>?_,by simpa using I.len⟩
 ·obtain⟨sl,e1⟩:=I.base.slot b o e q hb hx;exact⟨sl,(hs.2 b (old b o e)).trans e1⟩
 ·obtain⟨o2,e1⟩:=I.base.there b o e hx;exact⟨o2,(hs.2 b (old b o e)).trans e1⟩
 ·by_cases hj:j=i
  ·subst hj;rw[List.getElem?_set]at e2;simp at e2
  ·rw[wI (Ne.symm hj)]at e2;obtain⟨u2,r2,q⟩:=hl j y v2 e1 e2 e3;refine⟨u2,r2,?_⟩;rcases q with⟨kk,e⟩|⟨kk,c,e,z⟩
   ·have hy:y≠n:=λz=>hj (L2.nodup_ix hN e1 (z ▸ hi));exact .inl ⟨kk,(if_neg hy).trans e⟩
   ·exact .inr ⟨kk,c,e,z.sameBut hs (I.cne y c e)⟩
 ·obtain⟨w2,z⟩:=I.cell y c e;exact⟨w2,z.sameBut hs (I.cne y c e)⟩
 ·obtain⟨e,q,ne,nf,dd⟩:=I.pin p hp;exact⟨(hs.2 p.1 ne).trans e,q,ne,nf,dd⟩
 ·refine(I.hok b u e).stay (λc w2 hc q=>(hs.2 c ?_).trans q) (λ_ q=>q) λ_ _ q=>q;rintro rfl;rcases hc with rfl|hc
  ·rw[I.free]at e;cases e
  ·rw[I.free]at hc;cases hc
theorem qBJ{x n:Str}{C C0:Addr}{i:Nat}{np hpos:Pos}{b0:Stmt}{suite:List Stmt}{jO:List ExceptHandler}{Q:Flow->Shared->Prop}{R7:L2.St->Hp->Prop}(I:Inv X pins σ H s)(hst:X.stack=X.env::X.outer)(hf:X.env.frame=some X.env.locals)(hex:X.ex=[])(hN:X.N.Nodup)(hi:X.N[i]?=some n)
  (hk:X.env.scope.names.lookup n=some .local) (hg:L2.Gl X x) (hm:X.mg x=some (.ref C0)) (hd:(x==("__debug__":Str))=false) (hx:exmOne X.K (.ref C) (.ref C0)=some true) (Fy:Fly X.prog X.w X.stack H s C ea H' s')
  (k:∀oe s6,oe.cls=.ref C->Inv (XE X ea oe λ_ _=>False) pins (σ.set i (some (.ref ea))) H' s6->wpAny (model X.prog X.w) (X.A.mark (some (.ref ea))) (execs (b0::suite) X.env) (λf s7=>f=.next/\∃σ7 H7,Inv (XE X ea oe λ_ _=>False) pins σ7 H7 s7/\R7 (σ7.set i none) H7) (λ_ _=>False) s6)
  (fin:∀σ7 H7 s8 oe,oe.cls=.ref C->X.s₀.heap.get? ea=none->s8.heap.get? ea=some oe->H7 ea=none->ea≠X.env.locals->(∀v,oe.data≠.cell v)->(∀p∈X.pn++pins,p.1≠ea)->Inv X pins σ7 H7 s8->R7 σ7 H7->Q .next s8):
  wpAny (model X.prog X.w) X.A (noteFrame (.ref ea) X.env) (λ_ s2=>wpAny (model X.prog X.w) X.A (setFlight (.ref ea) none) (λ_ s3=>wpAny (model X.prog X.w) X.A (handleBy (.ref ea) X.env (.ExceptHandler (some (.Name x np)) (some n) (b0::suite) hpos::jO)) Q E s3) E s2) E s':=by
 obtain⟨B,a0,fl,cov⟩:=Fy.fl;have fr:=I.ok.frames;have fl0:=fl;rw[hst]at fr fl;have fre:∀b∈frs X.stack,H' b=none:=λb hb=>by
  obtain⟨_,o,e,_⟩:=I.stack.mem hb;exact Fy.un.free b o e (I.stkFree b hb) (by simp)
 refine wpAny_looks_onW fr hf fl λh4 held up4=>?_;refine wpAny_landsW held λh5 fl5 up5=>?_;obtain⟨u5,k5,c5⟩:=stay Fy.un Fy.hok cov fl5.1 (up4.trans up5) fre fl0.2.2.1;have I5:Inv X pins σ H' { s' with heap:=h5 }:=I.call' Fy.os u5 k5 Fy.bare (λb z=>absurd z (by simp));have not_fr:∀{h:Heap}{oe:Obj}{ws:Array Value},h.FunFrames B X.stack->h.get? ea=some oe->oe.data=.fields ws->ea∉frs X.stack:=λ{h oe ws} ff e d z=>by
  obtain⟨_,o,e2,nf⟩:=ff.mem z;rw[e]at e2;cases e2;exact nf ws d
 have apart:∀{h:Heap}{oe:Obj}{ws:Array Value},h.FunFrames B X.stack->Cov X.stack s.heap H' B h->B.get? ea=none->h.get? ea=some oe->oe.data=.fields ws->H' ea=none/\ea≠X.env.locals/\ea∉X.fs/\∀v,oe.data≠.cell v:=λ{h oe ws} ff cv hb e d=>by
  have nf:=not_fr ff e d;refine⟨?_,λz=>nf ?_,λz=>nf ?_,λv q=>by rw[d]at q;cases q⟩
  ·cases q:H' ea with
   |none=>rfl
   |some u=>
    have:=cv ea oe e nf (.inr (by rw[q];simp));rw[hb]at this;cases this
  ·rw[hst];unfold frs;rw[wR,hf,z];exact List.mem_cons_self ..
  ·rw[hst];unfold frs;rw[wR,hf];exact List.mem_cons_of_mem _ z
 obtain⟨oe5,ws5,e5,hc5,d5,_⟩:=fl5.first;have ff5:h5.FunFrames B X.stack:=by rw[hst];exact fl5.2.2.1
 obtain⟨a1,a2,a3,a4⟩:=apart ff5 c5 fl5.2.1 e5 d5;have IM:Inv (XE X ea oe5 λ_ _=>False) pins σ H' { s' with heap:=h5 }:=qAn I5 e5 a1 a2 a3 a4;refine wpAny_handleBy_cons (codeAny_handlers_test (L2.ld_glob IM hg hm ?_ hd)) (by intro q;cases q);have LT:Looks (model X.prog X.w) h5 (typeOf (.ref ea)) (.ref C):=hc5 ▸ (Looks.ld e5).andThen .now;refine(exm_one I5.kIn LT hx).here ?_;refine codeAny_handlers_suite_as ?_;refine lands_againW fl5 λh6 fl6 up6=>?_;obtain⟨u6,k6,c6⟩:=stay u5 k5 c5 fl6.1 up6 fre ff5;have I6:Inv X pins σ H' { s' with heap:=h6 }:=I.call' Fy.os u6 k6 Fy.bare (λb z=>absurd z (by simp));obtain⟨oe6,ws6,e6,hc6,d6,_⟩:=fl6.first;have ff6:h6.FunFrames B X.stack:=by rw[hst];exact fl6.2.2.1
 obtain⟨b1,b2,b3,b4⟩:=apart ff6 c6 fl6.2.1 e6 d6;have IM6:Inv (XE X ea oe6 λ_ _=>False) pins σ H' { s' with heap:=h6 }:=qAn I6 e6 b1 b2 b3 b4;refine L2.store_ok (X:=XE X ea oe6 λ_ _=>False) IM6 hN hi (.inl hk) (v:=.ref ea) rfl (λs7 I7=>?_) (.inr hk);refine wpAny_mono (k oe6 s7 hc6 I7) (λf s8 ⟨e,σ7,H7,I8,r⟩=>?_) (λ_ _ z=>z.elim);subst e;have nf6:ea∉frs X.stack:=not_fr ff6 e6 d6;have s0n:s.heap.get? ea=none:=by
  cases q:s.heap.get? ea with
  |none=>rfl
  |some o=>
   have:=c6 ea oe6 e6 nf6 (.inl ⟨o,q⟩);rw[fl6.2.1]at this;cases this
 refine qAX (X:=XE X ea oe6 λ_ _=>False) I8 hN hi hk λs9 I9=>fin _ _ s9 oe6 hc6 ?_ (qEH I9) (I9.pin (ea,oe6) (List.mem_cons_self ..)).2.1 b2 b4 (λp hp z=>?_) (qCs I.ok I9) r
 ·cases q:X.s₀.heap.get? ea with
  |none=>rfl
  |some o=>
   obtain⟨o',e'⟩:=I.base.there ea o q (by rw[hex];simp);rw[s0n]at e';cases e'
 ·have:=(I.pin p hp).1;rw[z,s0n]at this;cases this
end
structure Xs(K:Frag)(mg:Str->Option Value)(cn:List Str):Prop where
 nn:∀x∈cn,∃C,mg x=some (.ref C)/\nsIn K mainGlobals x=some (some (.ref C))/\G6 K C/\kitOne K (.ref C) (.type "ValueError")=some true
 sn:∀x∈cn,∀y∈cn,∀C D,mg x=some (.ref C)->mg y=some (.ref D)->kitOne K (.ref C) (.ref D)=some (qEX x y)
structure Gam where
 N:List Str
 sc:Scope
 fns:List Str
 gl:List (Str×E)
 bl:List Str
 own:Str->Bool
 cls:List Str:=[]
 xr:Bool:=false
noncomputable def slot(N:List Str)(x:Str):Option Nat:=(List.range N.length).find? λi=>N[i]?==some x
theorem qT{N:List Str}{x:Str}{i:Nat}(h:slot N x=some i):N[i]?=some x:=by
 unfold slot at h;simpa using List.find?_some h
noncomputable def qDV(sc:Scope)(x:Str):Bool:=match sc.names.lookup x with|some .local=>true|some .cell=>true|some .free=>true|_=>false
theorem m8{sc:Scope}{x:Str}(h:qDV sc x=true):L2.Vis sc x:=by
 unfold qDV at h;unfold L2.Vis;split at h<;>first|(rename_i e;simp[e])|cases h
noncomputable def glB(sc:Scope)(x:Str):Bool:=sc.names.lookup x==some .globalImplicit
noncomputable def okN(x:Str):Bool:=!(x==("__debug__":Str))&&!(x==("__classdict__":Str))&&!decide (x="__name__")
noncomputable def qEG:Operator->Option BOp
 | .Add=>some .add | .Sub=>some .sub | .Mult=>some .mul | .FloorDiv=>some .fdiv | .Mod=>some .mod | .Pow=>some .pow | .BitAnd=>some .band | .LShift=>some .shl|_=>none
theorem v5{o:Operator}{b:BOp}(h:qEG o=some b):o=opB b:=by
 cases o<;>cases h<;>rfl
noncomputable def D5:CmpOp->COp
 | .Lt=>.lt | .LtE=>.le | .Gt=>.gt | .GtE=>.ge | .Eq=>.eq | .NotEq=>.ne | .In=>.inn | .NotIn=>.notin | .Is=>.is | .IsNot=>.isnot
theorem JL(o:CmpOp):o=opC (D5 o):=by cases o<;>rfl
noncomputable def Zy:Expr->Bool
 | .Set ..=>false
 |_=>true
noncomputable def Qd:Expr->Bool
 | .Call ..=>false
 |_=>true
noncomputable def bfL:List (Str×BF):=[("len",.len),("all",.all),("max",.max),("min",.min),("list",.list),("int",.int)]
noncomputable def qD5(x:Str):Option BF:=bfL.lookup x
theorem Qm{x:Str}{f:BF}:∀{l:List (Str×BF)},l.lookup x=some f->(x,f)∈l
 | [],h=>by cases h
 | (a,b)::l,h=>by
  rw[List.lookup_cons]at h;split at h
  ·rename_i e;cases h;rw[eq_of_beq e];exact List.mem_cons_self ..
  ·exact List.mem_cons_of_mem _ (Qm h)
theorem qBC:∀p∈bfL,bootBuiltins p.1=some (fnB p.2):=
 wQ.mpr ⟨PySem.boot_len,wQ.mpr ⟨PyProof.Rows.boot_all,wQ.mpr ⟨PyProof.Rows.boot_max,wQ.mpr ⟨PyProof.Rows.boot_min,wQ.mpr ⟨PyProof.Rows.boot_list,wQ.mpr ⟨PyProof.Rows.boot_int,(λ_ h=>absurd h wO)⟩⟩⟩⟩⟩⟩
theorem qAI{x:Str}{f:BF}(h:qD5 x=some f):bootBuiltins x=some (fnB f):=qBC _ (Qm h)
noncomputable def mt0(m:Str):Option Mt:=if m="pop" then some .pop else if m="reverse" then some .rev else if m="clear" then some .clr else none
noncomputable def qCa(x:Str):Option String:=
 if x="int" then some "int" else if x="bool" then some "bool" else if x="list" then some "list" else if x="tuple" then some "tuple" else if x="str" then some "str" else if x="dict" then some "dict" else none
theorem u4{x:Str}{t:String}(h:qCa x=some t):bootBuiltins x=some (.type t)/\ZW t=true:=by
 unfold qCa at h
 repeat' split at h
 all_goals first|cases h|skip
 all_goals (rename_i hx;subst hx)
 ·exact⟨PyProof.Rows.boot_int,by decide⟩
 ·exact⟨PyProof.Rows.boot_bool,by decide⟩
 ·exact⟨PyProof.Rows.boot_list,by decide⟩
 ·exact⟨PyProof.Rows.boot_tuple,by decide⟩
 ·exact⟨PyProof.Rows.boot_str,by decide⟩
 ·exact⟨PyProof.Rows.boot_dict,by decide⟩
noncomputable def qCM(scope sc:Scope):Scope:=
 { scope with names:=scope.names.map λ(n,k)=>if (k==.free&&sc.kind==.function&&sc.names.lookup n==some .cell) then (n,.cell) else (n,k) }
noncomputable def K0:Expr->List Str
 | .Name x _=>[x]
 | .Tuple es _ _=>es.filterMap λe:Expr=>match e with | .Name x _=>some x|_=>none
 |_=>[]
noncomputable def qCB(scope:Scope):List Str:=scope.names.filterMap λy=>if y.2=.free then some y.1 else none
noncomputable def Qz(Γ:Gam)(scope:Scope)(N:List Str)(src:List (Option Nat)):Bool:=
 decide (scope.kind=.function)&&scope.names.all (λy=>decide (scope.names.lookup y.1=some y.2))
 && scope.names.all (λy=>decide (y.2=.free->(Γ.sc.names.lookup y.1=some .cell\/Γ.sc.names.lookup y.1=some .free)))&&decide N.Nodup&&decide (src.length=N.length)
 && (List.range N.length).all (λi=>match N[i]?,src[i]? with|some x,some (some j)=>decide (Γ.N[j]?=some x/\scope.names.lookup x=some .free)|_,_=>true)
noncomputable def QL(Γ:Gam)(x:Str):Bool:=match Γ.sc.names.lookup x with|some .local=>true|some .cell=>Γ.own x|_=>false
noncomputable def qCP(Γ:Gam):List Expr->Option (List Nat)
 | []=>some []
 | .Name x _::r=>if QL Γ x then (match slot Γ.N x,qCP Γ r with|some i,some is=>some (i::is)|_,_=>none) else none
 |_=>none
noncomputable def trT(Γ:Gam):Expr->Option Tg
 | .Name x _=>if QL Γ x then (slot Γ.N x).map .name else none
 | .Tuple es _ _=>(qCP Γ es).map .tup
 |_=>none
noncomputable def qCc:List Expr->Bool
 | [.Call (.Name r _) [_] [] _]=>decide (r="range")
 | [.Call (.Name r _) [_,_] [] _]=>decide (r="range")
 |_=>false
noncomputable def qDc:E->Bool
 |_=>true
mutual
noncomputable def trE:Nat->Gam->Expr->Option E
 | 0,_,_=>none
 |n+1,Γ,e=>match e with
  | .Constant c _ _=>(match c with
   | .int i=>some (.cst (.int i))
   | .bool i=>some (.cst (.bl i))
   | .none=>some (.cst .non)
   | .str i=>some (.cst (.str i))
   |_=>none)
  | .Name x _=>if okN x then (if qDV Γ.sc x then (slot Γ.N x).map .var else if glB Γ.sc x then Γ.gl.lookup x else none) else none
  | .BinOp a op b _=>match qEG op,trE n Γ a,trE n Γ b with|some o,some a',some b'=>some (.bin o a' b')|_,_,_=>none
  | .UnaryOp op a _=>(match op with
   | .USub=>(trE n Γ a).map .neg
   | .Not=>(trE n Γ a).map .not
   |_=>none)
  | .BoolOp op vs p=>trB n Γ op p vs
  | .IfExp c a b _=>match trE n Γ c,trE n Γ a,trE n Γ b with|some c',some a',some b'=>some (.ite c' a' b')|_,_,_=>none
  | .Compare a ops bs _=>(match ops,bs with
   | [op],[b]=>if Zy b then (match trE n Γ a,trE n Γ b with|some a',some b'=>some (.cmp (D5 op) a' b')|_,_=>none) else none
   | [o1,o2],[b,c]=>if Zy c then (match trE n Γ a,trE n Γ b,trE n Γ c with|some a',some b',some c'=>some (.cmp2 (D5 o1) (D5 o2) a' b' c')|_,_,_=>none) else none
   |_,_=>none)
  | .Call fn args kws cpos=>(match kws with
   | []=>(match fn with
    | .Name f _=>if okN f&&glB Γ.sc f&&args.all qS then trC n Γ f args else none
    | .Attribute o m apos=>(match args with
     | [x]=>if m="append"/\Qd o=true/\qS x=true/\(apos.endLine==cpos.line)=true then (match trE n Γ o,trE n Γ x with|some o',some x'=>some (.app o' x')|_,_=>none)
   else if m="pop"/\Qd o=true/\qS x=true/\(apos.endLine==cpos.line)=true then (match trE n Γ o,trE n Γ x with|some o',some x'=>some (.meth .popAt o' (.cons x' .nil))|_,_=>none)
   else if m="extend"/\Qd o=true/\qS x=true/\(apos.endLine==cpos.line)=true then (match trE n Γ o,trE n Γ x with|some o',some x'=>some (.meth .ext o' (.cons x' .nil))|_,_=>none) else none
     | []=>if m="bit_length" then (if Qd o=true/\(apos.endLine==cpos.line)=true then (trE n Γ o).map (λo'=>.blt .bits (.cons o' .nil)) else none) else if Qd o=true/\(apos.endLine==cpos.line)=true then (match trE n Γ o,mt0 m with|some o',some k=>some (.meth k o' .nil)|_,_=>none) else none
     |_=>none)
    |_=>none)
   |_=>none)
  | .Subscript a b _=>(match b with
   | .Slice lo hi st _=>(match st with
    |none=>(match trE n Γ a,trO n Γ lo,trO n Γ hi with|some a',some l,some h=>some (.sl a' l h)|_,_,_=>none)
    |some _=>none)
   |b=>if QT b then (match trE n Γ a,trE n Γ b with|some a',some b'=>some (.idx a' b')|_,_=>none) else none)
  | .List es _=>if es.all qS then (trA n Γ es).map .lst else none
  | .Tuple es _ _=>if es.all qS then (trA n Γ es).map .tup else none
  | .Dict ks vs _=>(match ks,vs with|[],[]=>some .dnew|_,_=>none)
  | .ListComp elt gens scope _=>(match gens with
   | [gen]=>(match gen with
    | ⟨tg,iter,ifs,asy⟩=>(match asy with
     | 0=>
      let N:=K0 tg++qCB scope
      let src:=(K0 tg).map (λ_=>none)++(qCB scope).map (slot Γ.N)
      let Γ':Gam:={ Γ with N:=N,sc:=qCM scope Γ.sc,own:=λx=>decide (scope.names.lookup x=some .cell) }
      if Qz Γ scope N src&&Zy iter then (match trI n Γ tg iter,trT Γ' tg,qAg n Γ' ifs,trE n Γ' elt with|some it,some g,some c,some e'=>some (.comp it src g c e')|_,_,_,_=>none) else none
     |_=>none))
   |_=>none)
  |_=>none
noncomputable def trA:Nat->Gam->List Expr->Option Es
 | 0,_,_=>none
 |_+1,_,[]=>some .nil
 |n+1,Γ,e::es=>match trE n Γ e,trA n Γ es with|some a,some as=>some (.cons a as)|_,_=>none
noncomputable def trB:Nat->Gam->BoolOp->Pos->List Expr->Option E
 | 0,_,_,_,_=>none
 |_+1,_,_,_,[]=>none
 |n+1,Γ,_,_,[a]=>trE n Γ a
 |n+1,Γ,op,p,a::b::r=>match trE n Γ a,trB n Γ op p (b::r) with|some a',some b'=>some (match op with | .And=>.and a' b' | .Or=>.or a' b')|_,_=>none
noncomputable def trC:Nat->Gam->Str->List Expr->Option E
 | 0,_,_,_=>none
 |n+1,Γ,f,args=>match slot Γ.fns f with
  |some i=>(trA n Γ args).map (.call i)
  |none=>if Γ.bl.contains f then
    (if f="isinstance" then (match args with
     | [a,.Name t _]=>if okN t&&glB Γ.sc t&&Γ.bl.contains t then (match trE n Γ a,qCa t with|some a',some t'=>some (.isi a' [t'])|_,_=>none) else none
     |_=>none)
    else if f="list"/\qCc args=true then none
    else match qD5 f,args with
     |some b,_::_=>(trA n Γ args).map (.blt b)
     |_,_=>none)
   else none
noncomputable def trO:Nat->Gam->Option Expr->Option Es
 | 0,_,_=>none
 |_+1,_,none=>some .nil
 |n+1,Γ,some e=>(trE n Γ e).map λa=>.cons a .nil
noncomputable def qAg:Nat->Gam->List Expr->Option Es
 | 0,_,_=>none
 |_+1,_,[]=>some .nil
 |n+1,Γ,[c]=>(trE n Γ c).map λa=>.cons a .nil
 |_,_,_=>none
noncomputable def trI:Nat->Gam->Expr->Expr->Option Itr
 | 0,_,_,_=>none
 |n+1,Γ,tg,iter=>match iter with
  | .Call (.Name f _) args [] _=>
   if f="range" then (if glB Γ.sc f&&Γ.bl.contains f&&args.all qS then (match args with
    | [a]=>(trE n Γ a).map .rng1
    |_=>none) else none)
   else if f="zip" then (if glB Γ.sc f&&Γ.bl.contains f&&args.all qS then (match tg,args with
    | .Tuple ..,[a,b]=>match trE n Γ a,trE n Γ b with|some a',some b'=>some (.zip a' b')|_,_=>none
    |_,_=>none) else none)
   else if f="enumerate" then (if glB Γ.sc f&&Γ.bl.contains f&&args.all qS then (match tg,args with
    | .Tuple ..,[a]=>(trE n Γ a).map .enum
    |_,_=>none) else none)
   else (trE n Γ iter).map .list
  |_=>(trE n Γ iter).map .list
end
noncomputable def xOf(Γ:Gam)(e:Expr):Option (Nat×Es):=match e with
 | .Call fn args kws _=>(match fn,args,kws with
  | .Name f _,a::r,[]=>if okN f&&glB Γ.sc f&&(a::r).all qS then (match slot Γ.fns f,trA 60 Γ (a::r) with|some i,some as=>some (i,as)|_,_=>none) else none
  |_,_,_=>none)
 |_=>none
noncomputable def rOf(Γ:Gam)(ex ca:Option Expr):Option Nat:=match ca with
 |none=>(match ex with
  |some (.Call fn args kws _)=>(match fn,args,kws with
   | .Name x _,[.Constant (.str _) _ _],[]=>if okN x&&glB Γ.sc x then slot Γ.cls x else none
   |_,_,_=>none)
  |_=>none)
 |_=>none
noncomputable def qCN(Γ:Gam)(n:Str)(e:Expr):Option Nat:=match e with
 | .Call fn args kws _=>(match fn,args,kws with
  | .Name f _,[.Name m _,.Name k _],[]=>if f="isinstance"/\m=n/\okN k=true/\glB Γ.sc k=true then (match slot Γ.cls k with|some c=>some c|none=>if k="ValueError"/\Γ.bl.contains k=true then some 999 else none) else none
  |_,_,_=>none)
 |_=>none
noncomputable def kOf(Γ:Gam)(n:Str):List Expr->Option (List Nat)
 | []=>some []
 |e::es=>match qCN Γ n e,kOf Γ n es with|some k,some ks=>some (k::ks)|_,_=>none
noncomputable def hOf(Γ:Gam)(hs:List ExceptHandler):Option (Nat×Nat×List Nat):=match hs with
 | [.ExceptHandler ty nm body _]=>(match ty,nm,body with
  |some (.Name x _),some n,[.Assign ts v _]=>(match ts,v with
   | [.Name y _],.List es _=>
    if okN x&&glB Γ.sc x&&okN n&&(slot Γ.cls x==some 0)&&(Γ.sc.names.lookup n==some .local)&&QL Γ y&&!(n==y)&&glB Γ.sc "isinstance"&&Γ.bl.contains "isinstance" then
     (match slot Γ.N n,slot Γ.N y,kOf Γ n es with|some e,some i,some ks=>if ks.length<=1000 then some (e,i,ks) else none|_,_,_=>none)
    else none
   |_,_=>none)
  |_,_,_=>none)
 |_=>none
noncomputable def xR(Γ:Gam)(e:Expr):Option (Nat×Es):=if Γ.xr then xOf Γ e else none
noncomputable def xN(Γ:Gam)(e:Expr):Option (COp×Nat×Es):=if Γ.xr then (match e with
 | .Compare l ops rs _=>(match ops,rs with
  | [o],[.Constant .none _ _]=>(match o with
   | .IsNot=>(xOf Γ l).map λp=>(.isnot,p)
   | .Is=>(xOf Γ l).map λp=>(.is,p)
   |_=>none)
  |_,_=>none)
 |_=>none) else none
noncomputable def xA(Γ:Gam)(st:Stmt):Option (Nat×Nat×Es):=match st with
 | .Assign ts v _=>(match ts with
  | [.Name x _]=>if QL Γ x&&zj v then (match slot Γ.N x,xOf Γ v with|some i,some p=>some (i,p.1,p.2)|_,_=>none) else none
  |_=>none)
 |_=>none
noncomputable def Ss.isNil:Ss->Bool
 | .nil=>true
 | .cons _ _=>false
mutual
noncomputable def S.sole:S->Bool
 | .xexpr _ _=>true
 | .xasg _ _ _=>true
 | .ifs _ t u=>t.sole&&u.sole
 |_=>false
noncomputable def Ss.sole:Ss->Bool
 | .nil=>true
 | .cons s r=>s.sole&&r.isNil
end
mutual
noncomputable def S.clean:S->Bool
 | .xexpr _ _=>true
 | .xasg _ _ _=>true
 | .xret _ _=>true
 | .xrn _ _ _=>true
 | .raise _=>true
 | .ifs _ t u=>t.clean&&u.clean
 | .for_ _ _ b=>b.clean
 |s=>s.calm
noncomputable def Ss.clean:Ss->Bool
 | .nil=>true
 | .cons s r=>s.clean&&r.clean
end
mutual
noncomputable def trS:Nat->Gam->Stmt->S
 | 0,_,_=>.stop
 |n+1,Γ,st=>match st with
  | .Assign ts v _=>(match ts with
   | [tgt]=>(match tgt with
    | .Name x _=>(match trT Γ (.Name x ⟨0,0,0,0⟩),trE 60 Γ v with|some g,some a=>if qDc a then .asg g a else .stop|_,_=>.stop)
    | .Subscript o i _=>if zj v&&QT i then (match trE 60 Γ o,trE 60 Γ i,trE 60 Γ v with|some o',some i',some v'=>.put o' i' v' | _,_,_=>.stop) else .stop
    |_=>.stop)
   |_=>.stop)
  | .Expr e _=>if zj e then (match xOf Γ e with|some p=>.xexpr p.1 p.2|none=>(match trE 60 Γ e with|some a=>.expr a|none=>.stop)) else .stop
  | .Raise ex ca _=>(match rOf Γ ex ca with|some c=>.raise c|none=>.stop)
  | .Try body hs els fin _=>(match body,els,fin with
   | [st],[],[]=>(match hOf Γ hs with
    |some p=>(match xA Γ st with
     |some q=>.tryK (.xasg q.1 q.2.1 q.2.2) p.1 p.2.1 Γ.cls.length p.2.2
     |none=>if (trS n Γ st).sole&&(trS n Γ st).clean then .tryK (trS n Γ st) p.1 p.2.1 Γ.cls.length p.2.2 else .stop)
    |none=>.stop)
   |_,_,_=>.stop)
  | .Return r _=>(match r with
   |some e=>(match xR Γ e with|some p=>.xret p.1 p.2|none=>(match xN Γ e with|some p=>.xrn p.1 p.2.1 p.2.2|none=>(match trE 60 Γ e with|some a=>.ret a|none=>.stop)))
   |none=>.stop)
  | .If c t u _=>match trE 60 Γ c with|some c'=>.ifs c' (QW n Γ t) (QW n Γ u)|none=>.stop
  | .For tg iter b els _=>(match els with
   | []=>if Zy iter then (match trI 60 Γ tg iter,trT Γ tg with|some it,some g=>.for_ g it (QW n Γ b)|_,_=>.stop) else .stop
   |_=>.stop)
  |_=>.stop
noncomputable def QW:Nat->Gam->List Stmt->Ss
 | 0,_,_=>.cons .stop .nil
 |_+1,_,[]=>.nil
 |n+1,Γ,s::r=>.cons (trS n Γ s) (QW n Γ r)
end
structure Fit(Γ:Gam)(X:Cx)(G:List Addr)(F:Nat->List V->AH->RV):Prop where
 hN:X.N=Γ.N
 nd:Γ.N.Nodup
 sc:X.env.scope=Γ.sc
 calm:X.calm=true
 fn:∀x,Γ.own x=true->X.fn x=true
 fns:∀(f:Nat) x,Γ.fns[f]?=some x->FnS X G F f x
 gls:∀x e,Γ.gl.lookup x=some e->(∃v u,e=.cst v/\X.mg x=some u/\RelV v u/\∀φ,rv φ v v)\/(∃g a,e=.glob g/\X.mg x=some (.ref a)/\G[g]?=some a)
 blt:∀x,Γ.bl.contains x=true->X.mg x=none
 hu:X.A.units+8<cLine
 gd:X.A.guards=some []
 gtu:∀a∈G,∃o,X.K.lookup a=some o/\o.cls=.type "tuple"/\o.dict=none
 xs:Xs X.K X.mg Γ.cls
section
variable{Γ:Gam}{X:Cx}{G:List Addr}{F:Nat->List V->AH->RV}
theorem zM{x:Str}(h:okN x=true):(x==("__debug__":Str))=false/\(x==("__classdict__":Str))=false/\x≠"__name__":=by
 unfold okN at h;simp only[Bool.and_eq_true,Bool.not_eq_true',decide_eq_false_iff_not]at h;exact⟨h.1.1,h.1.2,h.2⟩
theorem Fit.gl'(f:Fit Γ X G F){x:Str}(h:glB Γ.sc x=true):L2.Gl X x:=by
 unfold L2.Gl Env.kindOf;rw[f.sc];simpa [glB] using h
theorem Fit.store(f:Fit Γ X G F){x:Str}(h:QL Γ x=true):L2.Loc X.env.scope x/\(X.fn x=true\/X.env.scope.names.lookup x=some .local):=by
 rw[f.sc];unfold QL at h;unfold L2.Loc;split at h
 ·rename_i e;exact⟨.inl e,.inr e⟩
 ·rename_i e;exact⟨.inr e,.inl (f.fn x h)⟩
 ·cases h
theorem d8(f:Fit Γ X G F):∀{es:List Expr}{is:List Nat},qCP Γ es=some is->PGs X es (tGs is)/\(assignEach es X.env).length=is.length/\(assignEach es X.env).findIdx? (·.1)=none
 | [],is,h=>by
  cases h;exact⟨qAU,rfl,rfl⟩
 |e::es,is,h=>by
  unfold qCP at h;split at h
  ·rename_i e1;cases e1
  ·rename_i x p r e1;cases e1;split at h
   ·rename_i hs;split at h
    ·rename_i i is' ei eis;cases h;obtain⟨h1,h2⟩:=f.store hs;obtain⟨g1,g2,g3⟩:=d8 f eis;refine⟨Y1 (by rw[f.hN];exact f.nd) (by rw[f.hN];exact qT ei) h1 h2 g1,?_,?_⟩
     ·show (assignEach es X.env).length+1=_;rw[g2];rfl
     ·show (((false,assign (.Name x p) X.env)::assignEach es X.env).findIdx? (·.1))=none;rw[List.findIdx?_cons,g3];rfl
    ·cases h
   ·cases h
  ·cases h
theorem F2(f:Fit Γ X G F){tg:Expr}{g:Tg}(h:trT Γ tg=some g):SG X G tg g:=by
 unfold trT at h;split at h
 ·rename_i x p;split at h
  ·rename_i hs;obtain⟨i,ei,rfl⟩:=Option.map_eq_some_iff.mp h;obtain⟨h1,h2⟩:=f.store hs;exact O8 (by rw[f.hN];exact f.nd) (by rw[f.hN];exact qT ei) h1 h2
  ·cases h
 ·obtain⟨is,ei,rfl⟩:=Option.map_eq_some_iff.mp h;obtain⟨g1,g2,g3⟩:=d8 f ei;exact qAz f.calm g1 g2 g3
 ·cases h
theorem O5{op:CmpOp}{e:Expr}(h:Zy e=true):behindInMarks op e=false:=by
 cases e<;>first|rfl|cases h
theorem L5{o1 o2:CmpOp}{b c:Expr}(h:Zy c=true):lastMarks [o1,o2] [b,c]=false:=by
 show behindInMarks o2 c=false;exact O5 h
theorem Js{iter:Expr}{env:Env}(h:Zy iter=true):∀x,foldedSetIterable iter env x=pure x:=by
 intro x;cases iter<;>first|rfl|cases h
theorem Zj{o:Expr}{n:Str}{env:Env}{w:Sem Value}(h:Qd o=true):attributeBase o n env w=w:=by
 cases o<;>first|rfl|cases h
theorem jP(f:Fit Γ X G F){scope:Scope}{N:List Str}{src:List (Option Nat)}(h:Qz Γ scope N src=true):L2.CompScope X scope N src:=by
 unfold Qz at h;simp only[Bool.and_eq_true,wF,vF]at h;obtain⟨⟨⟨⟨⟨h1,h2⟩,h4⟩,h5⟩,h6⟩,h7⟩:=h;refine⟨h1,h2,λy hy hk=>?_,h5,h6,λi x j e1 e2=>?_⟩
 ·unfold Env.kindOf;rw[f.sc];exact h4 y hy hk
 ·have hi:i<N.length:=(List.getElem?_eq_some_iff.mp e1).1;have:=h7 i (wY.mpr hi);rw[e1,e2]at this;rw[f.hN];simpa using this
theorem zl(f:Fit Γ X G F){scope:Scope}{N:List Str}{src:List (Option Nat)}(h:Qz Γ scope N src=true)(C:Addr)(fp:List Addr)(s:Shared)(H:Hp):
  Fit { Γ with N:=N,sc:=qCM scope Γ.sc,own:=λx=>decide (scope.names.lookup x=some .cell) } (L2.cxComp X scope C fp s H N) G F:=by
 have S:=jP f h;refine⟨rfl,S.nd,?_,f.calm,λx z=>z,λg x e=>?_,f.gls,f.blt,f.hu,f.gd,f.gtu,f.xs⟩
 ·show relabel scope X.env=qCM scope Γ.sc;unfold relabel qCM Env.kindOf;rw[f.sc]
 ·exact⟨(f.fns g x e).ex⟩
theorem S9{m:Str}{k:Mt}{o:Expr}{a:E}{apos cpos:Pos}(hk:mt0 m=some k)(hbase:attributeBase o m X.env (eval o X.env)=eval o X.env)(hline:(apos.endLine==cpos.line)=true)(ha:SE X G F o a):SE X G F (.Call (.Attribute o m apos) [] [] cpos) (.meth k a .nil):=by
 unfold mt0 at hk;split at hk
 ·rename_i e;subst e;cases hk;exact qAG hbase hline ha
 ·split at hk
  ·rename_i e;subst e;cases hk;exact qAJ hbase hline ha
  ·split at hk
   ·rename_i e;subst e;cases hk;exact qAA hbase hline ha
   ·cases hk
theorem zB(n:Nat):
  (∀ Γ e a,trE n Γ e=some a->∀X:Cx,Fit Γ X G F->SE X G F e a/\ST X G F e a)/\
  (∀ Γ es as,trA n Γ es=some as->es.all qS=true->∀X:Cx,Fit Γ X G F->SA X G F es as)/\
  (∀ Γ op p vs a,trB n Γ op p vs=some a->∀X:Cx,Fit Γ X G F->SE X G F (.BoolOp op vs p) a/\SW X G F (.BoolOp op vs p) a)/\
  (∀ Γ f args a,trC n Γ f args=some a->okN f=true->glB Γ.sc f=true->args.all qS=true->∀X:Cx,Fit Γ X G F->∀p pos,SE X G F (.Call (.Name f p) args [] pos) a)/\
  (∀ Γ o as,trO n Γ o=some as->∀X:Cx,Fit Γ X G F->SO X G F o as)/\
  (∀ Γ ifs as,qAg n Γ ifs=some as->∀X:Cx,Fit Γ X G F->SC X G F ifs as)/\
  (∀ Γ tg iter it,trI n Γ tg iter=some it->∀X:Cx,Fit Γ X G F->SI X G F tg iter it):=by
 induction n with
 |zero=>exact⟨(λ_ _ _ h=>by unfold trE at h;cases h),(λ_ _ _ h=>by unfold trA at h;cases h),(λ_ _ _ _ _ h=>by unfold trB at h;cases h),(λ_ _ _ _ h=>by unfold trC at h;cases h),(λ_ _ _ h=>by unfold trO at h;cases h),(λ_ _ _ h=>by unfold qAg at h;cases h),(λ_ _ _ _ h=>by unfold trI at h;cases h)⟩
 |succ n ih=>
  obtain⟨iE,iA,iB,iC,iO,iIf,iI⟩:=ih;refine⟨?_,?_,?_,?_,?_,?_,?_⟩
  ·intro Γ e a h X f;unfold trE at h;split at h
   ·split at h
    ·cases h;exact⟨j7,qQ j7 λ_=>rfl⟩
    ·cases h;exact⟨qBV,qQ qBV λ_=>rfl⟩
    ·cases h;exact⟨K7,qQ K7 λ_=>rfl⟩
    ·cases h;exact⟨k8,qQ k8 λ_=>rfl⟩
    ·cases h
   ·rename_i x p;split at h
    ·rename_i ho;obtain⟨o1,o2,o3⟩:=zM ho;split at h
     ·rename_i hv;obtain⟨i,ei,rfl⟩:=Option.map_eq_some_iff.mp h;have s1:SE X G F (.Name x p) (.var i):=qBj (by rw[f.hN];exact qT ei) (by rw[f.sc];exact m8 hv) o1 o2;exact⟨s1,qQ s1 λ_=>rfl⟩
     ·split at h
      ·rename_i hg;rcases f.gls x a h with⟨v,u,rfl,e1,e2,e3⟩|⟨g,ad,rfl,e1,e2⟩
       ·have s1:SE X G F (.Name x p) (.cst v):=m5 (f.gl' hg) e1 e2 e3 o1;exact⟨s1,qQ s1 λ_=>rfl⟩
       ·have s1:SE X G F (.Name x p) (.glob g):=qAC (f.gl' hg) e1 e2 o1;exact⟨s1,qQ s1 λ_=>rfl⟩
      ·cases h
    ·cases h
   ·split at h
    ·rename_i o a' b' eo ea eb;cases h;rw[v5 eo];exact⟨Z2 (iE _ _ _ ea X f).1 (iE _ _ _ eb X f).1,qQ (Z2 (iE _ _ _ ea X f).1 (iE _ _ _ eb X f).1) λ_=>rfl⟩
    ·cases h
   ·split at h
    ·obtain⟨a',ea,rfl⟩:=Option.map_eq_some_iff.mp h;have s1:=qBT (pos:=‹Pos›) (iE _ _ _ ea X f).1;exact⟨s1,qQ s1 λ_=>rfl⟩
    ·obtain⟨a',ea,rfl⟩:=Option.map_eq_some_iff.mp h;exact⟨qBW (iE _ _ _ ea X f).1,qB6 (iE _ _ _ ea X f).2⟩
    ·cases h
   ·obtain⟨s1,s2⟩:=iB _ _ _ _ _ h X f;exact⟨s1,s2.pt⟩
   ·split at h
    ·rename_i c' a' b' ec ea eb;cases h;exact⟨qCD (iE _ _ _ ec X f).2 (iE _ _ _ ea X f).1 (iE _ _ _ eb X f).1,qCF (iE _ _ _ ec X f).2 (iE _ _ _ ea X f).2 (iE _ _ _ eb X f).2⟩
    ·cases h
   ·split at h
    ·rename_i op b0;split at h
     ·rename_i hs;split at h
      ·rename_i a' b' ea eb;cases h;rw[JL op];have e1:D5 (opC (D5 op))=D5 op:=by cases op<;>rfl
       rw[e1];exact⟨Z3 f.hu (iE _ _ _ ea X f).1 (iE _ _ _ eb X f).1 (O5 hs),qBu f.hu (iE _ _ _ ea X f).1 (iE _ _ _ eb X f).1 (O5 hs)⟩
      ·cases h
     ·cases h
    ·rename_i o1 o2 b0 c0;split at h
     ·rename_i hs;split at h
      ·rename_i a' b' c' ea eb ec;cases h;rw[JL o1,JL o2];have e1:D5 (opC (D5 o1))=D5 o1:=by cases o1<;>rfl
       have e2:D5 (opC (D5 o2))=D5 o2:=by cases o2<;>rfl
       rw[e1,e2];exact⟨X7 f.hu (iE _ _ _ ea X f).1 (iE _ _ _ eb X f).1 (iE _ _ _ ec X f).1 (L5 hs),W4 f.hu (iE _ _ _ ea X f).1 (iE _ _ _ eb X f).1 (iE _ _ _ ec X f).1 (L5 hs)⟩
      ·cases h
     ·cases h
    ·cases h
   ·split at h
    ·split at h
     ·split at h
      ·rename_i hc;simp only[Bool.and_eq_true]at hc;have s1:=iC _ _ _ _ h hc.1.1 hc.1.2 hc.2 X f;exact⟨s1 _ _,qQ (s1 _ _) λ_=>rfl⟩
      ·cases h
     ·split at h
      ·split at h
       ·rename_i hc;obtain⟨rfl,hc1,hc2,hc3⟩:=hc;split at h
        ·rename_i o' x' eo ex;cases h;have s1:=qBi (Zj hc1) hc3 hc2 (iE _ _ _ eo X f).1 (iE _ _ _ ex X f).1;exact⟨s1,qQ s1 λ_=>rfl⟩
        ·cases h
       ·split at h
        ·rename_i hc;obtain⟨rfl,hc1,hc2,hc3⟩:=hc;split at h
         ·rename_i o' x' eo ex;cases h;have s1:=T9 (Zj hc1) hc3 hc2 (iE _ _ _ eo X f).1 (iE _ _ _ ex X f).1;exact⟨s1,qQ s1 λ_=>rfl⟩
         ·cases h
        ·split at h
         ·rename_i hc;obtain⟨rfl,hc1,hc2,hc3⟩:=hc;split at h
          ·rename_i o' x' eo ex;cases h;have s1:=qBf (Zj hc1) hc3 hc2 (iE _ _ _ eo X f).1 (iE _ _ _ ex X f).1;exact⟨s1,qQ s1 λ_=>rfl⟩
          ·cases h
         ·cases h
      ·split at h
       ·rename_i hm;subst hm;split at h
        ·rename_i hc;obtain⟨o',eo,rfl⟩:=Option.map_eq_some_iff.mp h;have s1:=n8 f.calm f.hu f.gd (Zj hc.1) hc.2 (iE _ _ _ eo X f).1;exact⟨s1,qQ s1 λ_=>rfl⟩
        ·cases h
       split at h
       ·rename_i hc;obtain⟨hc1,hc3⟩:=hc;split at h
        ·rename_i o' k eo ek;cases h;have s1:=S9 ek (Zj hc1) hc3 (iE _ _ _ eo X f).1;exact⟨s1,qQ s1 λ_=>rfl⟩
        ·cases h
       ·cases h
      ·cases h
     ·cases h
    ·cases h
   ·split at h
    ·split at h
     ·split at h
      ·rename_i a' l h' ea el eh;cases h;exact⟨qCE (iE _ _ _ ea X f).1 (iO _ _ _ el X f) (iO _ _ _ eh X f),qQ (qCE (iE _ _ _ ea X f).1 (iO _ _ _ el X f) (iO _ _ _ eh X f)) λ_=>rfl⟩
      ·cases h
     ·cases h
    ·split at h
     ·rename_i hs;split at h
      ·rename_i a' b' ea eb;cases h;have s1:=qBK (pos:=‹Pos›) hs (iE _ _ _ ea X f).1 (iE _ _ _ eb X f).1;exact⟨s1,qQ s1 λ_=>rfl⟩
      ·cases h
     ·cases h
   ·split at h
    ·rename_i hs;obtain⟨a',ea,rfl⟩:=Option.map_eq_some_iff.mp h;have s1:=qCL (pos:=‹Pos›) (iA _ _ _ ea hs X f);exact⟨s1,qQ s1 λ_=>rfl⟩
    ·cases h
   ·split at h
    ·rename_i hs;obtain⟨a',ea,rfl⟩:=Option.map_eq_some_iff.mp h;exact⟨j9 (iA _ _ _ ea hs X f),qQ (j9 (iA _ _ _ ea hs X f)) λ_=>rfl⟩
    ·cases h
   ·split at h
    ·cases h;exact⟨P5,qQ P5 λ_=>rfl⟩
    ·cases h
   ·split at h
    ·split at h;split at h
     ·dsimp only at h;split at h
      ·rename_i hc;simp only[Bool.and_eq_true]at hc;split at h
       ·rename_i it g c e' ei eg ec ee;cases h;have s1:=J5 (pos:=‹Pos›) f.calm (iI _ _ _ _ ei X f) (jP f hc.1) (λC fp s H=>F2 (zl f hc.1 C fp s H) eg) (λC fp s H=>iIf _ _ _ ec _ (zl f hc.1 C fp s H)) (λC fp s H=>(iE _ _ _ ee _ (zl f hc.1 C fp s H)).1) (Js hc.2);exact⟨s1,qQ s1 λ_=>rfl⟩
       ·cases h
      ·cases h
     ·cases h
    ·cases h
   ·cases h
  ·intro Γ es as h hs X f;cases es with
   |nil=>simp only[trA]at h;cases h;exact S1
   |cons e es=>
    simp only[trA]at h;simp only[List.all_cons,Bool.and_eq_true]at hs;split at h
    ·rename_i a as ea eas;cases h;exact Jf hs.1 (iE _ _ _ ea X f).1 (iA _ _ _ eas hs.2 X f)
    ·cases h
  ·intro Γ op p vs a h X f;cases vs with
   |nil=>simp only[trB]at h;cases h
   |cons e r=>
    cases r with
    |nil=>
     simp only[trB]at h;obtain⟨s1,s2⟩:=iE _ _ _ h X f;refine⟨L2.pe_one s1,?_⟩;cases op with
     |And=>exact L2.pw_and1 s2
     |Or=>exact L2.pw_or1 s2
    |cons b r=>
     simp only[trB]at h;split at h
     ·rename_i a' b' ea eb;cases h;obtain⟨s1,s2⟩:=iE _ _ _ ea X f;obtain⟨s3,s4⟩:=iB _ _ _ _ _ eb X f;cases op with
      |And=>exact⟨qB9 s1 s3,qBH s2 s4⟩
      |Or=>exact⟨qCt s1 s3,qCb s2 s4⟩
     ·cases h
  ·intro Γ g args a h ho hg hs X f p pos;obtain⟨o1,o2,o3⟩:=zM ho;unfold trC at h;split at h
   ·rename_i i ei;obtain⟨as,ea,rfl⟩:=Option.map_eq_some_iff.mp h;have sA:=iA _ _ _ ea hs X f;cases args with
    |nil=>
     have:as=.nil:=by
      cases n with
      |zero=>simp only[trA]at ea;cases ea
      |succ m=>simp only[trA]at ea;cases ea;rfl
     subst this;exact V5 (f.fns i g (qT ei)) (f.gl' hg) o1
    |cons e es=>
     simp only[List.all_cons,Bool.and_eq_true]at hs;exact QB (f.fns i g (qT ei)) (f.gl' hg) o1 hs.1 hs.2 sA
   ·split at h
    ·rename_i hb;split at h
     ·rename_i hi;subst hi;split at h
      ·rename_i e0 t pt;split at h
       ·rename_i hc;simp only[Bool.and_eq_true]at hc;obtain⟨t1,t2,t3⟩:=zM hc.1.1;split at h
        ·rename_i a' t' ea et;cases h;obtain⟨b1,b2⟩:=u4 et;simp only[List.all_cons,Bool.and_eq_true]at hs;exact qCK b2 (f.gl' hg) (f.blt _ hb) (f.gl' hc.1.2) (f.blt _ hc.2) b1 t3 t1 hs.1 (iE _ _ _ ea X f).1
        ·cases h
       ·cases h
      ·cases h
     ·split at h
      ·rename_i hl;obtain⟨rfl,_⟩:=hl;cases h
      rename_i hneg;clear hneg;split at h
      ·rename_i b e es eb;obtain⟨as,ea,rfl⟩:=Option.map_eq_some_iff.mp h;have sA:=iA _ _ _ ea hs X f;simp only[List.all_cons,Bool.and_eq_true]at hs;exact qA7 f.calm f.hu f.gd (f.gl' hg) (f.blt _ hb) (qAI eb) hs.1 hs.2 sA o3 o1
      ·cases h
    ·cases h
  ·intro Γ o as h X f;cases o with
   |none=>simp only[trO]at h;cases h;exact qAO
   |some e=>
    simp only[trO]at h;obtain⟨a,ea,rfl⟩:=Option.map_eq_some_iff.mp h;exact m4 (iE _ _ _ ea X f).1
  ·intro Γ ifs as h X f;cases ifs with
   |nil=>simp only[qAg]at h;cases h;exact qAy
   |cons e r=>
    cases r with
    |nil=>
     simp only[qAg]at h;obtain⟨a,ea,rfl⟩:=Option.map_eq_some_iff.mp h;exact qBk (iE _ _ _ ea X f).2
    |cons b r=>simp only[qAg]at h;cases h
  ·intro Γ tg iter it h X f;unfold trI at h;split at h
   ·rename_i fn p args pos;split at h
    ·rename_i hf;subst hf;split at h
     ·rename_i hc;simp only[Bool.and_eq_true]at hc;split at h
      ·rename_i e;obtain⟨a,ea,rfl⟩:=Option.map_eq_some_iff.mp h;have hs:=hc.2;simp only[List.all_cons,Bool.and_eq_true]at hs;exact q9 (f.gl' hc.1.1) (f.blt _ hc.1.2) hs.1 (iE _ _ _ ea X f).1
      ·cases h
     ·cases h
    ·split at h
     ·rename_i hf;subst hf;split at h
      ·rename_i hc;simp only[Bool.and_eq_true]at hc;split at h
       ·split at h
        ·rename_i a' b' ea eb;cases h;have hs:=hc.2;simp only[List.all_cons,Bool.and_eq_true]at hs;exact qAu (f.gl' hc.1.1) (f.blt _ hc.1.2) hs.1 hs.2.1 (iE _ _ _ ea X f).1 (iE _ _ _ eb X f).1
        ·cases h
       ·cases h
      ·cases h
     ·split at h
      ·rename_i hf;subst hf;split at h
       ·rename_i hc;simp only[Bool.and_eq_true]at hc;split at h
        ·obtain⟨a,ea,rfl⟩:=Option.map_eq_some_iff.mp h;have hs:=hc.2;simp only[List.all_cons,Bool.and_eq_true]at hs;exact z8 (f.gl' hc.1.1) (f.blt _ hc.1.2) hs.1 (iE _ _ _ ea X f).1
        ·cases h
       ·cases h
      ·obtain⟨a,ea,rfl⟩:=Option.map_eq_some_iff.mp h;exact L6 (iE _ _ _ ea X f).1
   ·obtain⟨a,ea,rfl⟩:=Option.map_eq_some_iff.mp h;exact L6 (iE _ _ _ ea X f).1
end
open L2 (FnOk Fun qu Binds Room)
noncomputable def CA(mg:Str->Option Value)(cn:List Str)(c:Nat):Option Addr:=match cn[c]? with
 |some x=>(match mg x with|some (.ref C)=>some C|_=>none)
 |none=>none
theorem J7{mg:Str->Option Value}{cn:List Str}{c:Nat}{C:Addr}(h:CA mg cn c=some C):∃x,cn[c]?=some x/\mg x=some (.ref C):=by
 unfold CA at h;split at h
 ·rename_i x ex;split at h
  ·rename_i C' em;cases h;exact⟨x,ex,em⟩
  ·cases h
 ·cases h
noncomputable def spX(mg:Str->Option Value)(cn:List Str)(G:List Addr)(F:Nat->List V->AH->RV)(K:PySem.W.Frag)(f:Nat):L2.Sp:=λvs H _ E=>∃φ h ws c C h',Rl K G φ h H/\rvs φ ws vs/\F f ws h=.exc c h'/\CA mg cn c=some C/\∀φ' H',Ext φ φ'->Rl K G φ' h' H'->E (.ref C) none H'
structure FnX(X:Cx)(G:List Addr)(F:Nat->List V->AH->RV)(cn:List Str)(f:Nat)(x:Str):Prop where
 ex:∃k fa fd ps,FnOk X.prog X.w X.K X.mg X.base (CX1 X.prog X.w) k fa fd ps (spX X.mg cn G F X.K f)/\Room k X.A/\X.mg x=some (.ref fa)/\PySem.W.keepIn X.K (.ref fa)=true/\Binds X.K fd ps []
structure FitX(Γ:Gam)(X:Cx)(G:List Addr)(F:Nat->List V->AH->RV):Prop where
 stk:X.stack=X.env::X.outer
 fra:X.env.frame=some X.env.locals
 exn:X.ex=[]
 fnx:∀(f:Nat) x,Γ.fns[f]?=some x->FnX X G F Γ.cls f x
 cl:∀(c:Nat) x,Γ.cls[c]?=some x->∃C,X.mg x=some (.ref C)/\G6 X.K C
 sb:∀c k C D,CA X.mg Γ.cls c=some C->CA X.mg Γ.cls k=some D->PySem.W.kitOne X.K (.ref C) (.ref D)=some (QY c k)
 sv:∀c C,CA X.mg Γ.cls c=some C->PySem.W.kitOne X.K (.ref C) (.type "ValueError")=some true
 ro:∀c C D,CA X.mg Γ.cls c=some C->CA X.mg Γ.cls 0=some D->PySem.W.exmOne X.K (.ref C) (.ref D)=some true
section
variable{Γ:Gam}{X:Cx}{G:List Addr}{F:Nat->List V->AH->RV}
theorem Fit.wish(f:Fit Γ X G F)(E:Value->Shared->Prop):Fit Γ (X.wish E) G F:=⟨f.hN,f.nd,f.sc,f.calm,f.fn,λg x e=>⟨(f.fns g x e).ex⟩,f.gls,f.blt,f.hu,f.gd,f.gtu,f.xs⟩
theorem FitX.wish(f:FitX Γ X G F)(E:Value->Shared->Prop):FitX Γ (X.wish E) G F:=⟨f.stk,f.fra,f.exn,λg x e=>⟨(f.fnx g x e).ex⟩,f.cl,f.sb,f.sv,f.ro⟩
def LX(X:Cx)(Ex:XK)(e:Value)(s':Shared):Prop:=wpAny (model X.prog X.w) X.A (leaving X.env e) (λ_ s''=>∃ea C H',e=.ref ea/\Fly X.prog X.w X.outer X.H₀ X.s₀ C ea H' s''/\Ex (.ref C) none H') (λ_ _=>False) s'
theorem LX.passes{Ex:XK}:PassesOwn (model X.prog X.w) X.A X.env (LX X Ex):=
 PassesOwn.leaving (Q₁:=λe s''=>∃ea C H',e=.ref ea/\Fly X.prog X.w X.outer X.H₀ X.s₀ C ea H' s''/\Ex (.ref C) none H') (E₁:=λ_ _=>False)
def Thr(X:Cx)(pins:List (Addr×Obj))(Sg:L2.St->Prop)(Ex:XK)(mk:Bool)(e:Value)(s':Shared):Prop:=
 (∃σ1 s1 H1,Sg σ1/\Inv X pins σ1 H1 s1/\CX1 X.prog X.w X.stack H1 s1 Ex e s')\/
 (mk=true/\∃σ1 s2 H1 h1 ea vs C,Inv X pins σ1 H1 s2/\Heap.MadeExcOf s2.heap h1 ea (.ref C) vs/\e=.ref ea/\s'={ s2 with heap:=h1 }/\Ex (.ref C) none H1)\/
 (mk=true/\LX X Ex e s')
theorem Thr.out(fx:FitX Γ X G F){pins:List (Addr×Obj)}{Sg:L2.St->Prop}{Ex:XK}{mk:Bool}{e:Value}{s':Shared}(t:Thr X pins Sg Ex mk e s'):LX X Ex e s':=by
 rcases t with⟨σ1,s2,H2,_,I2,ea,C2,H3,rfl,Fy,ec⟩|⟨_,σ1,s2,H2,h2,ea,vs2,C2,I2,mk,rfl,rfl,ec⟩|⟨_,z⟩
 ·exact wpAny_mono (E9 I2 fx.stk fx.fra fx.exn Fy) (λ_ s3 z=>⟨ea,C2,H3,rfl,z,ec⟩) λ_ _ z=>z
 ·exact wpAny_mono (Jc I2 fx.stk fx.fra fx.exn mk) (λ_ s3 z=>⟨ea,C2,H2,rfl,z,ec⟩) λ_ _ z=>z
 ·exact z
theorem Thr.mono{pins:List (Addr×Obj)}{Sg Sg':L2.St->Prop}{Ex:XK}{mk mk':Bool}{e:Value}{s':Shared}(t:Thr X pins Sg Ex mk e s')(h1:∀σ,Sg σ->Sg' σ)(h2:mk=true->mk'=true):Thr X pins Sg' Ex mk' e s':=by
 rcases t with⟨σ1,s1,H1,a,b,c⟩|⟨a,b⟩|⟨a,b⟩
 ·exact .inl ⟨σ1,s1,H1,h1 _ a,b,c⟩
 ·exact .inr (.inl ⟨h2 a,b⟩)
 ·exact .inr (.inr ⟨h2 a,b⟩)
def tX(X:Cx)(G:List Addr)(cn:List Str)(r:St->AH->RS)(σc:L2.St)(H:Hp)(Ex:XK):Prop:=∃φ h σ c C h',Rl X.K G φ h H/\rst φ σ σc/\r σ h=.exc c h'/\CA X.mg cn c=some C/\∀φ' H',Ext φ φ'->Rl X.K G φ' h' H'->Ex (.ref C) none H'
variable (X G F) in
def SX(cn:List Str)(st:Stmt)(s:S):Prop:=∀(pins:List (Addr×Obj)) (s0:Shared) (σc:L2.St) (H:Hp) (Ex:XK),Inv X pins σc H s0->tX X G cn (ex F s) σc H Ex->wpAny (model X.prog X.w) X.A (exec st X.env) (λ_ _=>False) (Thr X pins (λσ1=>s.sole=true->σ1=σc) Ex (!s.sole)) s0
variable (X G F) in
def SXs(cn:List Str)(st:List Stmt)(s:Ss):Prop:=∀(pins:List (Addr×Obj)) (s0:Shared) (σc:L2.St) (H:Hp) (Ex:XK),Inv X pins σc H s0->tX X G cn (exs F s) σc H Ex->wpAny (model X.prog X.w) X.A (execs st X.env) (λ_ _=>False) (Thr X pins (λσ1=>s.sole=true->σ1=σc) Ex (!s.sole)) s0
theorem qx{cn:List Str}{st:Stmt}{s:S}(h:s.calm=true):SX X G F cn st s:=by
 intro pins s0 σc H Ex I q;obtain⟨φ,h0,σ,c,C,h',R,rs,e,_⟩:=q;exact absurd e (qBs F s h σ h0 c h')
theorem U8{pins:List (Addr×Obj)}{σ:L2.St}{H:Hp}{s:Shared}{Ex:XK}{us:List Value}{vs:List V}{k:Nat}{fa:Addr}{fd:FuncData}{ps:List Str}{sp:L2.Sp}(Fo:FnOk X.prog X.w X.K X.mg X.base (CX1 X.prog X.w) k fa fd ps sp)(hr:Room k X.A)(hb:Binds X.K fd ps [])
  (I:Inv X pins σ H s) (r:Vals vs us) (h:sp vs H (λ_ _=>False) Ex):wpAny (model X.prog X.w) X.A (call (.ref fa) us) (λ_ _=>False) (λe s'=>CX1 X.prog X.w X.stack H s Ex e s') s:=by
 have hl:(us++[]).length=ps.length:=by rw[List.append_nil,<-r.length];exact Fo.len _ _ _ _ h
 have hb2:=hb s us I.kIn hl;rw[List.append_nil]at hb2;refine wpAny_call (codeAny_mono (Fo.run X.A X.stack s H ⟨us,[]⟩ us vs _ Ex hr I.env0 hb2 r h) λres s' hq=>?_);cases res with
 |error e=>exact hq
 |ok fl=>
  cases fl with
  |ret u=>obtain⟨v,H2,_,_,_,_,_,z⟩:=hq;exact z.elim
  |next=>exact False.elim hq
  |brk=>exact False.elim hq
  |cont=>exact False.elim hq
theorem Res.bind_exc{α β:Type}{r:Res α}{f:α->Res β}{c:Nat}{h:AH}(e:r.bind f=.exc c h)(n:NX r):∃a,r=.ok a/\f a=.exc c h:=by
 cases r with
 |ok a=>exact⟨a,rfl,e⟩
 |exc c' h'=>exact absurd rfl (n c' h')
 |stuck=>cases e
theorem T6(f:Fit Γ X G F)(fx:FitX Γ X G F){e:Expr}{i:Nat}{as:Es}{pos:Pos}(h:xOf Γ e=some (i,as))(hc:zj e=true):SX X G F Γ.cls (.Expr e pos) (.xexpr i as):=by
 intro pins s0 σc H Ex I q;unfold xOf at h;split at h
 ·rename_i fn args kws cpos;split at h
  ·rename_i g gp a r;split at h
   ·rename_i hcc;simp only[Bool.and_eq_true]at hcc;split at h
    ·rename_i i' as' ei ea;cases h;obtain⟨⟨o1,o2⟩,o3⟩:=hcc;obtain⟨d1,d2,d3⟩:=zM o1;obtain⟨k,fa,fd,ps,h1,h2,h3,h4,h5⟩:=(fx.fnx i g (qT ei)).ex;obtain⟨φ,h0,σ,c,C,h',R,rs,e,ca,kk⟩:=q;unfold ex at e;obtain⟨⟨xs,h01⟩,e1,e⟩:=Res.bind_exc e (za F as σ h0);have e2:F i xs h01=.exc c h':=by
      dsimp only at e;revert e;generalize F i xs h01=rr;intro e;cases rr with
      |ok p=>cases e
      |exc c2 h2=>cases e;rfl
      |stuck=>cases e
     have hs:=o3;simp only[List.all_cons,Bool.and_eq_true]at hs;have sA:SA (X.wish (Thr X pins (λσ1=>(S.xexpr i as).sole=true->σ1=σc) Ex (!(S.xexpr i as).sole))) G F (a::r) as:=(zB (G:=G) (F:=F) 60).2.1 Γ _ _ ea o3 _ (f.wish _);refine wpAny_Expr_any ?_ I.quiet (zZ hc);refine wpAny_Call_Name_kw (L2.ld_glob I (f.gl' o2) h3 ?_ d1);refine PySem.W.callWith_K (h₀:=X.base) I.ok.mod.kin h4 (L2.thn (sA cpos pins s0 σc H (λvs H1=>spX X.mg Γ.cls G F X.K i vs H1 (λ_ _=>False) Ex) (I.wish _) ⟨φ,h0,σ,xs,h01,R,rs,e1,λφ1 H1 ws x1 R1 r1=>⟨φ1,h01,xs,c,C,h',R1,r1,e2,ca,λφ2 H2 x2 R2=>kk φ2 H2 (x1.trans x2) R2⟩⟩) λus s1 ⟨vs,H1,I1,r1,q1⟩=>⟨I1.kIn,?_⟩) (qC hs.1) (zC hs.2);exact wpAny_mono (U8 (X:=X) h1 h2 h5 I1.unwish r1 q1) (λ_ _ z=>z.elim) λe s' z=>.inl ⟨σc,s1,H1,λ_=>rfl,I1.unwish,z⟩
    ·cases h
   ·cases h
  ·cases h
 ·cases h
theorem l0{st:Stmt}{q:Nat×Nat×Es}(h:xA Γ st=some q):∃x p v pos,st=.Assign [.Name x p] v pos/\QL Γ x=true/\zj v=true/\slot Γ.N x=some q.1/\xOf Γ v=some (q.2.1,q.2.2):=by
 unfold xA at h;split at h
 ·rename_i ts v pos;split at h
  ·rename_i x p;split at h
   ·rename_i hc;rw[Bool.and_eq_true]at hc;split at h
    ·rename_i i q' ei eq;cases h;exact⟨x,p,v,pos,rfl,hc.1,hc.2,ei,eq⟩
    ·cases h
   ·cases h
  ·cases h
 ·cases h
theorem qAN(f:Fit Γ X G F)(fx:FitX Γ X G F){st:Stmt}{q:Nat×Nat×Es}(h0:xA Γ st=some q):SX X G F Γ.cls st (.xasg q.1 q.2.1 q.2.2):=by
 obtain⟨x,px,v,pos,rfl,hst,hc,ei0,h⟩:=l0 h0;obtain⟨j,i,as⟩:=q;dsimp only at *;intro pins s0 σc H Ex I q;unfold xOf at h;split at h
 ·rename_i fn args kws cpos;split at h
  ·rename_i g gp a r;split at h
   ·rename_i hcc;simp only[Bool.and_eq_true]at hcc;split at h
    ·rename_i i' as' ei ea;cases h;obtain⟨⟨o1,o2⟩,o3⟩:=hcc;obtain⟨d1,d2,d3⟩:=zM o1;obtain⟨k,fa,fd,ps,h1,h2,h3,h4,h5⟩:=(fx.fnx i g (qT ei)).ex;obtain⟨φ,h0,σ,c,C,h',R,rs,e,ca,kk⟩:=q;unfold ex at e;obtain⟨⟨xs,h01⟩,e1,e⟩:=Res.bind_exc e (za F as σ h0);have e2:F i xs h01=.exc c h':=by
      dsimp only at e;revert e;generalize F i xs h01=rr;intro e;cases rr with
      |ok p=>cases e
      |exc c2 h2=>cases e;rfl
      |stuck=>cases e
     have hs:=o3;simp only[List.all_cons,Bool.and_eq_true]at hs;have sA:SA (X.wish (Thr X pins (λσ1=>(S.xasg j i as).sole=true->σ1=σc) Ex (!(S.xasg j i as).sole))) G F (a::r) as:=(zB (G:=G) (F:=F) 60).2.1 Γ _ _ ea o3 _ (f.wish _);refine wpAny_Assign_Name ?_ (zZ hc);refine wpAny_Call_Name_kw (L2.ld_glob I (f.gl' o2) h3 ?_ d1);refine PySem.W.callWith_K (h₀:=X.base) I.ok.mod.kin h4 (L2.thn (sA cpos pins s0 σc H (λvs H1=>spX X.mg Γ.cls G F X.K i vs H1 (λ_ _=>False) Ex) (I.wish _) ⟨φ,h0,σ,xs,h01,R,rs,e1,λφ1 H1 ws x1 R1 r1=>⟨φ1,h01,xs,c,C,h',R1,r1,e2,ca,λφ2 H2 x2 R2=>kk φ2 H2 (x1.trans x2) R2⟩⟩) λus s1 ⟨vs,H1,I1,r1,q1⟩=>⟨I1.kIn,?_⟩) (qC hs.1) (zC hs.2);exact wpAny_mono (U8 (X:=X) h1 h2 h5 I1.unwish r1 q1) (λ_ _ z=>z.elim) λe s' z=>.inl ⟨σc,s1,H1,λ_=>rfl,I1.unwish,z⟩
    ·cases h
   ·cases h
  ·cases h
 ·cases h
theorem r6(f:Fit Γ X G F)(fx:FitX Γ X G F){e:Expr}{i:Nat}{as:Es}{pos:Pos}(h:xOf Γ e=some (i,as)):SX X G F Γ.cls (.Return (some e) pos) (.xret i as):=by
 intro pins s0 σc H Ex I q;unfold xOf at h;split at h
 ·rename_i fn args kws cpos;split at h
  ·rename_i g gp a r;split at h
   ·rename_i hcc;simp only[Bool.and_eq_true]at hcc;split at h
    ·rename_i i' as' ei ea;cases h;obtain⟨⟨o1,o2⟩,o3⟩:=hcc;obtain⟨d1,d2,d3⟩:=zM o1;obtain⟨k,fa,fd,ps,h1,h2,h3,h4,h5⟩:=(fx.fnx i g (qT ei)).ex;obtain⟨φ,h0,σ,c,C,h',R,rs,e,ca,kk⟩:=q;unfold ex at e;obtain⟨⟨xs,h01⟩,e1,e⟩:=Res.bind_exc e (za F as σ h0);have e2:F i xs h01=.exc c h':=by
      dsimp only at e;revert e;generalize F i xs h01=rr;intro e;cases rr with
      |ok p=>cases e
      |exc c2 h2=>cases e;rfl
      |stuck=>cases e
     have hs:=o3;simp only[List.all_cons,Bool.and_eq_true]at hs;have sA:SA (X.wish (Thr X pins (λσ1=>(S.xret i as).sole=true->σ1=σc) Ex (!(S.xret i as).sole))) G F (a::r) as:=(zB (G:=G) (F:=F) 60).2.1 Γ _ _ ea o3 _ (f.wish _);refine wpAny_Return_some ?_;refine wpAny_Call_Name_kw (L2.ld_glob I (f.gl' o2) h3 ?_ d1);refine PySem.W.callWith_K (h₀:=X.base) I.ok.mod.kin h4 (L2.thn (sA cpos pins s0 σc H (λvs H1=>spX X.mg Γ.cls G F X.K i vs H1 (λ_ _=>False) Ex) (I.wish _) ⟨φ,h0,σ,xs,h01,R,rs,e1,λφ1 H1 ws x1 R1 r1=>⟨φ1,h01,xs,c,C,h',R1,r1,e2,ca,λφ2 H2 x2 R2=>kk φ2 H2 (x1.trans x2) R2⟩⟩) λus s1 ⟨vs,H1,I1,r1,q1⟩=>⟨I1.kIn,?_⟩) (qC hs.1) (zC hs.2);exact wpAny_mono (U8 (X:=X) h1 h2 h5 I1.unwish r1 q1) (λ_ _ z=>z.elim) λe s' z=>.inl ⟨σc,s1,H1,(λ_=>rfl),I1.unwish,z⟩
    ·cases h
   ·cases h
  ·cases h
 ·cases h
theorem qBP(f:Fit Γ X G F)(fx:FitX Γ X G F){o:COp}{e:Expr}{i j:Nat}{as:Es}{pos q2 q3:Pos}(h:xOf Γ e=some (i,as)):SX X G F Γ.cls (.Return (some (.Compare e [opC o] [.Constant .none j q2] q3)) pos) (.xrn o i as):=by
 intro pins s0 σc H Ex I q;unfold xOf at h;split at h
 ·rename_i fn args kws cpos;split at h
  ·rename_i g gp a r;split at h
   ·rename_i hcc;simp only[Bool.and_eq_true]at hcc;split at h
    ·rename_i i' as' ei ea;cases h;obtain⟨⟨o1,o2⟩,o3⟩:=hcc;obtain⟨d1,d2,d3⟩:=zM o1;obtain⟨k,fa,fd,ps,h1,h2,h3,h4,h5⟩:=(fx.fnx i g (qT ei)).ex;obtain⟨φ,h0,σ,c,C,h',R,rs,e,ca,kk⟩:=q;unfold ex at e;obtain⟨⟨xs,h01⟩,e1,e⟩:=Res.bind_exc e (za F as σ h0);have e2:F i xs h01=.exc c h':=by
      dsimp only at e;revert e;generalize F i xs h01=rr;intro e;cases rr with
      |ok p=>
       dsimp only[Res.bind,G5]at e;cases ec:G4 o p.1 .non p.2 with
       |none=>rw[ec]at e;cases e
       |some b=>rw[ec]at e;cases e
      |exc c2 h2=>cases e;rfl
      |stuck=>cases e
     have hs:=o3;simp only[List.all_cons,Bool.and_eq_true]at hs;have sA:SA (X.wish (Thr X pins (λσ1=>(S.xrn o i as).sole=true->σ1=σc) Ex (!(S.xrn o i as).sole))) G F (a::r) as:=(zB (G:=G) (F:=F) 60).2.1 Γ _ _ ea o3 _ (f.wish _);refine wpAny_Return_some ?_;refine wpAny_Compare1 ?_ rfl;refine wpAny_Call_Name_kw (L2.ld_glob I (f.gl' o2) h3 ?_ d1);refine PySem.W.callWith_K (h₀:=X.base) I.ok.mod.kin h4 (L2.thn (sA cpos pins s0 σc H (λvs H1=>spX X.mg Γ.cls G F X.K i vs H1 (λ_ _=>False) Ex) (I.wish _) ⟨φ,h0,σ,xs,h01,R,rs,e1,λφ1 H1 ws x1 R1 r1=>⟨φ1,h01,xs,c,C,h',R1,r1,e2,ca,λφ2 H2 x2 R2=>kk φ2 H2 (x1.trans x2) R2⟩⟩) λus s1 ⟨vs,H1,I1,r1,q1⟩=>⟨I1.kIn,?_⟩) (qC hs.1) (zC hs.2);exact wpAny_mono (U8 (X:=X) h1 h2 h5 I1.unwish r1 q1) (λ_ _ z=>z.elim) λe s' z=>.inl ⟨σc,s1,H1,(λ_=>rfl),I1.unwish,z⟩
    ·cases h
   ·cases h
  ·cases h
 ·cases h
theorem X6(f:Fit Γ X G F)(fx:FitX Γ X G F){ex ca:Option Expr}{c:Nat}{pos:Pos}(h:rOf Γ ex ca=some c):SX X G F Γ.cls (.Raise ex ca pos) (.raise c):=by
 intro pins s0 σc H Ex I q;unfold rOf at h;split at h
 ·split at h
  ·rename_i fn args kws cpos;split at h
   ·rename_i x np v j p;split at h
    ·rename_i hcc;rw[Bool.and_eq_true]at hcc;obtain⟨d1,d2,d3⟩:=zM hcc.1;obtain⟨C,hm,hC⟩:=fx.cl c x (qT h);obtain⟨φ,h0,σ,c',C',h',R,rs,e,cc,kk⟩:=q;unfold PI.ex at e;cases e;have e2:C'=C:=by
      obtain⟨x',ex',em'⟩:=J7 cc;rw[qT h]at ex';cases ex';rw[hm]at em';cases em';rfl
     subst e2;refine U9 (X:=X.wish (Thr X pins (λσ1=>(S.raise c).sole=true->σ1=σc) Ex (!(S.raise c).sole))) (f.gl' hcc.2) hm d1 f.calm hC (I.wish _) λs2 h1 ea vs I2 mk=>?_;exact .inr (.inl ⟨rfl,σc,s2,H,h1,ea,vs,_,I2.unwish,mk,rfl,rfl,kk φ H (.refl _) R⟩)
    ·cases h
   ·cases h
  ·cases h
 ·cases h
end
section
variable{Γ:Gam}{X:Cx}{G:List Addr}{F:Nat->List V->AH->RV}{cn:List Str}
theorem qCH{ec:Expr}{c:E}{t u:List Stmt}{st su:Ss}{pos:Pos}(hc:∀E,ST (X.wish E) G F ec c)(ht:SXs X G F cn t st)(hu:SXs X G F cn u su):SX X G F cn (.If ec t u pos) (.ifs c st su):=by
 intro pins s0 σc H Ex I q;obtain⟨φ,h,σ,cc,C,h',R,rs,e,ca,k⟩:=q;unfold ex at e;obtain⟨⟨b,h1⟩,e1,e⟩:=Res.bind_exc e (QJ (qa F c σ h));have sl:(S.ifs c st su).sole=(st.sole&&su.sole):=by rw[S.sole]
 refine wpAny_If (L2.thn (hc (Thr X pins (λσ1=>(S.ifs c st su).sole=true->σ1=σc) Ex (!(S.ifs c st su).sole)) pins s0 σc H (λd H1=>d=b/\tX X G cn (exs F (if b then st else su)) σc H1 Ex) (I.wish _) ⟨φ,h,σ,b,h1,R,rs,e1,λφ1 H1 x1 R1=>⟨rfl,φ1,h1,σ,cc,C,h',R1,rst.mono x1 rs,?_,ca,λφ2 H2 x2 R2=>k φ2 H2 (x1.trans x2) R2⟩⟩) λd s1 ⟨H1,I1,ed,q1⟩=>?_)
 ·dsimp only at e;cases b with
  |true=>rw[if_pos rfl]at e ⊢;exact e
  |false=>rw[if_neg (by decide)]at e ⊢;exact e
 ·subst ed;cases d with
  |true=>
   rw[if_pos rfl]at q1;refine wpAny_mono (ht pins s1 σc H1 Ex I1.unwish q1) (λ_ _ z=>z.elim) λe s' z=>z.mono (λσ1 w y=>w (by rw[sl,Bool.and_eq_true]at y;exact y.1)) λy=>?_;rw[sl];simp at y ⊢;exact .inl y
  |false=>
   rw[if_neg (by decide)]at q1;refine wpAny_mono (hu pins s1 σc H1 Ex I1.unwish q1) (λ_ _ z=>z.elim) λe s' z=>z.mono (λσ1 w y=>w (by rw[sl,Bool.and_eq_true]at y;exact y.2)) λy=>?_;rw[sl];simp at y ⊢;exact .inr y
theorem y9:SXs X G F cn [] .nil:=by
 intro pins s0 σc H Ex I q;obtain⟨φ,h,σ,cc,C,h',R,rs,e,ca,k⟩:=q;unfold exs at e;cases e
theorem V9{st:Stmt}{sts:List Stmt}{s:S}{r:Ss}(h0:SS X.nox G F st s)(h1:SX X G F cn st s)(h2:SXs X G F cn sts r):SXs X G F cn (st::sts) (.cons s r):=by
 intro pins s0 σc H Ex I q;obtain⟨φ,h,σ,cc,C,h',R,rs,e,ca,k⟩:=q;unfold exs at e;cases er:ex F s σ h with
 |stuck=>rw[er]at e;cases e
 |exc c2 h2'=>
  rw[er]at e;cases e;refine wpAny_execs_cons (wpAny_mono (h1 pins s0 σc H Ex I ⟨φ,h,σ,cc,C,h',R,rs,er,ca,k⟩) (λ_ _ z=>z.elim) λe s' z=>z.mono (λσ1 w y=>w (by rw[Ss.sole,Bool.and_eq_true]at y;exact y.1)) λy=>?_);rw[Ss.sole];simp at y ⊢;exact .inl y
 |ok p=>
  obtain⟨o,h1'⟩:=p;rw[er,Res.bind_ok]at e;cases o with
  |nx σ1=>
   have e:exs F r σ1 h1'=.exc cc h':=e;have hr:(Ss.cons s r).sole=false:=by
    cases r with
    |nil=>unfold exs at e;cases e
    |cons a b=>rw[Ss.sole];simp[Ss.isNil]
   refine wpAny_execs_cons (wpAny_mono (h0 pins s0 σc H { nx:=λσ2 H2=>tX X G cn (exs F r) σ2 H2 Ex,rt:=λ_ _=>False } (I.wish _) ⟨φ,h,σ,.nx σ1,h1',R,rs,er,λφ1 H1 x1 R1 σc1 rs1=>⟨φ1,h1',σ1,cc,C,h',R1,rs1,e,ca,λφ2 H2 x2 R2=>k φ2 H2 (x1.trans x2) R2⟩⟩) (λf s1 z=>?_) λ_ _ z=>False.elim z);cases f with
   |next=>
    obtain⟨σ2,H2,I2,q2⟩:=z;exact wpAny_mono (h2 pins s1 σ2 H2 Ex I2.unwish q2) (λ_ _ z=>z.elim) λe s' z=>z.mono (λσ1 w y=>by rw[hr]at y;cases y) λy=>by rw[hr];rfl
   |ret v=>obtain⟨_,_,_,_,_,z⟩:=z;exact z.elim
   |brk=>obtain⟨_,_,_,z⟩:=z;exact z.elim
   |cont=>obtain⟨_,_,_,z⟩:=z;exact z.elim
  |rt v=>cases e
  |bk σ1=>cases e
  |ct σ1=>cases e
theorem qBd(f:Fit Γ X G F)(fx:FitX Γ X G F){tg iter:Expr}{body:List Stmt}{it:Itr}{g:Tg}{sb:Ss}{pos:Pos}(hi:∀E,SI (X.wish E) G F tg iter it)(hg:∀E,SG (X.wish E) G tg g)(hb:SSs X.nox G F body sb)(hx:SXs X G F cn body sb)
  (hs:∀x,foldedSetIterable iter X.env x=pure x):SX X G F cn (.For tg iter body [] pos) (.for_ g it sb):=by
 intro pins s0 σc H Ex I q;obtain⟨φ,h,σ,c,C,h',R,rs,e,ca,k⟩:=q;have bd:L2.PSs (X.wish (LX X Ex)) body (λD σ1 H1=>tS X.K G (exs F sb) D σ1 H1\/tX X G cn (exs F sb) σ1 H1 Ex):=by
  intro pins1 s1 σ1 H1 D I1 q1;rcases q1 with q1|q1
  ·refine wpAny_mono (hb pins1 s1 σ1 H1 D (I1.unwish.wish _) q1) (λfl s2 z=>?_) λ_ _ z=>z.elim;cases fl with
   |next=>obtain⟨σ2,H2,I2,q2⟩:=z;exact⟨σ2,H2,I2.unwish.wish _,q2⟩
   |cont=>obtain⟨σ2,H2,I2,q2⟩:=z;exact⟨σ2,H2,I2.unwish.wish _,q2⟩
   |brk=>obtain⟨σ2,H2,I2,q2⟩:=z;exact⟨σ2,H2,I2.unwish.wish _,q2⟩
   |ret v=>obtain⟨x2,σ2,H2,I2,r2,q2⟩:=z;exact⟨x2,σ2,H2,I2.unwish.wish _,r2,q2⟩
  ·exact wpAny_mono (hx pins1 s1 σ1 H1 Ex I1.unwish q1) (λ_ _ z=>z.elim) λ_ _ t=>t.out fx
 refine wpAny_mono (L2.ps_for (X:=X.wish (LX X Ex)) (pos:=pos) LX.passes f.calm (hi _) (hg _) bd hs pins s0 σc H { nx:=λ_ _=>False,rt:=λ_ _=>False } (I.wish _) ?_) (λfl s1 z=>?_) λ_ _ z=>.inr (.inr ⟨rfl,z⟩)
 rotate_left
 ·cases fl with
  |next=>obtain⟨_,_,_,z⟩:=z;exact z
  |ret v=>obtain⟨_,_,_,_,_,z⟩:=z;exact z
  |brk=>obtain⟨_,_,_,z⟩:=z;exact z
  |cont=>obtain⟨_,_,_,z⟩:=z;exact z
 unfold ex at e;obtain⟨⟨s,h1⟩,e1,e⟩:=Res.bind_exc e (K5 F it σ h);refine⟨φ,h,σ,s,h1,R,rs,e1,λφ1 H1 J x1 R1 j1=>?_⟩;dsimp only at e;split at e
 ·rename_i n hn;refine⟨λi m σ' H'=>∃φ' h2 σa,Ext φ1 φ'/\Rl X.K G φ' h2 H'/\rst φ' σa σ'/\JD s g (exs F sb) m i σa h2=.exc c h',⟨n,φ1,h1,σ,.refl _,R1,rst.mono x1 rs,e⟩,?_⟩;rintro i m σ' H' ⟨φ',h2,σa,x2,Ra,rsa,ef⟩;have jj:IsJ X.K φ' s J:=j1.mono x2;cases m with
  |zero=>unfold JD at ef;split at ef<;>cases ef
  |succ m=>
   unfold JD at ef;split at ef
   ·rename_i x h3 hy;split at ef
    ·rename_i σ3 hst;refine .inr ⟨jj.go Ra hy,λσ' H'=>∃φ' h2 σa,Ext φ1 φ'/\Rl X.K G φ' h2 H'/\rst φ' σa σ'/\JD s g (exs F sb) m (i+1) σa h2=.exc c h',λσ2 H2 w=>⟨m,Nat.lt_succ_self _,w⟩,λxv H2 hyl=>?_⟩;obtain⟨φ3,x3,R3,rx⟩:=jj.yld Ra hy hyl;refine⟨φ3,h3,σa,x,σ3,R3,rst.mono x3 rsa,rx,hst,λσc3 rs3=>?_⟩;cases er:exs F sb σ3 h3 with
     |stuck=>rw[er]at ef;cases ef
     |exc c2 h4=>
      rw[er]at ef;cases ef;exact .inr ⟨φ3,h3,σ3,c,C,h',R3,rs3,er,ca,λφ4 H4 x4 R4=>k φ4 H4 (x1.trans (x2.trans (x3.trans x4))) R4⟩
     |ok p=>
      obtain⟨o,h4⟩:=p;rw[er,Res.bind_ok]at ef;refine .inl ⟨φ3,h3,σ3,o,h4,R3,rs3,er,λφ4 H4 x4 R4=>?_⟩;dsimp only at ef;cases o with
      |nx σ4=>exact λσc4 rs4=>⟨φ4,h4,σ4,x2.trans (x3.trans x4),R4,rs4,ef⟩
      |ct σ4=>exact λσc4 rs4=>⟨φ4,h4,σ4,x2.trans (x3.trans x4),R4,rs4,ef⟩
      |bk σ4=>cases ef
      |rt v=>cases ef
    ·cases ef
   ·cases ef
 ·cases e
theorem Z6(φ:List Addr){α:Type}(g:α->Bool):∀l:List α,rvs φ (l.map λk=>.bl (g k)) (l.map λk=>.bl (g k))
 | []=>.nil
 |a::r=>.cons rfl (Z6 φ g r)
theorem qDK(f:Fit Γ X G F)(fx:FitX Γ X G F){n:Str}{ie c k:Nat}{C ea:Addr}{oe:Obj}{E:Value->Shared->Prop}(ca:CA X.mg Γ.cls c=some C)(hcl:oe.cls=.ref C)(hC:G6 X.K C)(hn:okN n=true)(hloc:Γ.sc.names.lookup n=some .local)(hi:slot Γ.N n=some ie)
  (hgi:glB Γ.sc "isinstance"=true) (hbi:Γ.bl.contains "isinstance"=true){e:Expr}(h:qCN Γ n e=some k):PE (XE X ea oe E) e (λσ H Q=>σ[ie]?=some (some (.ref ea))/\Q (.bl (QY c k)) H):=by
 unfold qCN at h;split at h
 ·rename_i fn args kws cpos;split at h
  ·rename_i g gp m mp kk kp;split at h
   ·rename_i hcc;obtain⟨rfl,rfl,ok,gk⟩:=hcc;obtain⟨d1,d2,d3⟩:=zM hn;obtain⟨b1,b2,b3⟩:=zM ok;have hN:(XE X ea oe E).N[ie]?=some m:=by show X.N[ie]?=_;rw[f.hN];exact qT hi
    have hv:L2.Vis (XE X ea oe E).env.scope m:=by show L2.Vis X.env.scope m;rw[f.sc];exact .inl hloc
    have pv:=L2.pe_var (X:=XE X ea oe E) (pos:=mp) hN hv d1 d2;have hgl:L2.Gl (XE X ea oe E) "isinstance":=f.gl' hgi;have hgk:L2.Gl (XE X ea oe E) kk:=f.gl' gk;split at h
    ·rename_i k2 ek;cases h;obtain⟨D,hm,hD⟩:=fx.cl k kk (qT ek);have cd:CA X.mg Γ.cls k=some D:=by unfold CA;rw[qT ek];dsimp only;rw[hm]
     refine qh (L2.pe_callB (C5 (E:=E) (cv:=.ref D) (u:=.ref D) hC hcl (λw r=>r) (fx.sb c k C D ca cd)) hgl (f.blt _ hbi) PyProof.Rows.boot_isinstance (L2.pa_cons pv (L2.pa_cons (L2.pe_glob (v:=.ref D) hgk hm rfl b1) L2.pa_nil rfl) rfl) (by decide) (by decide) rfl rfl) λσ H Q q=>?_;exact⟨_,q.1,rfl,q.2⟩
    ·split at h
     ·rename_i hve;cases h;obtain⟨rfl,hbv⟩:=hve;have ev:QY c 999=true:=by unfold QY;simp
      rw[ev];refine qh (L2.pe_callB (C5 (E:=E) (cv:=.ty "ValueError") (u:=.type "ValueError") hC hcl (λw r=>r) (fx.sv c C ca)) hgl (f.blt _ hbi) PyProof.Rows.boot_isinstance (L2.pa_cons pv (L2.pa_cons (L2.pe_bltn (v:=.ty "ValueError") hgk (f.blt _ hbv) (by decide +kernel) rfl (by decide) (by decide)) L2.pa_nil rfl) rfl) (by decide) (by decide) rfl rfl) λσ H Q q=>?_;exact⟨_,q.1,rfl,q.2⟩
     ·cases h
   ·cases h
  ·cases h
 ·cases h
theorem qBI(f:Fit Γ X G F)(fx:FitX Γ X G F){n:Str}{ie c:Nat}{C ea:Addr}{oe:Obj}{E:Value->Shared->Prop}(ca:CA X.mg Γ.cls c=some C)(hcl:oe.cls=.ref C)(hC:G6 X.K C)(hn:okN n=true)(hloc:Γ.sc.names.lookup n=some .local)(hi:slot Γ.N n=some ie)
  (hgi:glB Γ.sc "isinstance"=true) (hbi:Γ.bl.contains "isinstance"=true):∀{es:List Expr}{ks:List Nat},kOf Γ n es=some ks->PA (XE X ea oe E) es (λσ H Q=>σ[ie]?=some (some (.ref ea))/\Q (ks.map λk=>.bl (QY c k)) H)
 | [],ks,h=>by cases h;exact X5 L2.pa_nil λσ H Q q=>q.2
 |e::es,ks,h=>by
  unfold kOf at h;split at h
  ·rename_i k ks' e1 e2;cases h;have st:qS e=true:=by
    unfold qCN at e1;split at e1
    ·rfl
    ·cases e1
   exact X5 (L2.pa_cons (qDK f fx ca hcl hC hn hloc hi hgi hbi e1) (qBI f fx ca hcl hC hn hloc hi hgi hbi e2) (qC st)) λσ H Q q=>⟨q.1,q.1,q.2⟩
  ·cases h
theorem f7(f:Fit Γ X G F)(fx:FitX Γ X G F)(hx:X.xe=λ_ _=>False){st:Stmt}{hs:List ExceptHandler}{b:S}{e i:Nat}{ks:List Nat}{pos:Pos}(hh:hOf Γ hs=some (e,i,ks))(h0:SS X G F st b)(h1:SX X G F Γ.cls st b)(sole:b.sole=true):
  SS X G F (.Try [st] hs [] [] pos) (.tryK b e i Γ.cls.length ks):=by
 intro pins s0 σc H D I q;obtain⟨φ,h,σ,o,h',R,rs,ee,kk⟩:=q;unfold ex at ee;unfold hOf at hh;split at hh
 ·rename_i ty nm body hpos;split at hh
  ·rename_i x xp n ts v ap;split at hh
   ·rename_i y yp es lp;split at hh
    ·rename_i hcc;simp only[Bool.and_eq_true,Bool.not_eq_true',beq_iff_eq,beq_eq_false_iff_ne]at hcc;obtain⟨⟨⟨⟨⟨⟨⟨⟨c1,c2⟩,c3⟩,c4⟩,c5⟩,c6⟩,c7⟩,c8⟩,c9⟩:=hcc;split at hh
     ·rename_i e' i' ks' ei ey ek;split at hh
      ·rename_i hlen;cases hh;refine wpAny_Try_except ?_
       try dsimp only at ee
       cases er:ex F b σ h with
       |stuck=>rw[er]at ee;cases ee
       |ok p=>
        rw[er]at ee;cases ee;refine wpAny_execs_cons (wpAny_mono (h0 pins s0 σc H D I ⟨φ,h,σ,o,h',R,rs,er,kk⟩) (λfl s1 z=>?_) λ_ _ z=>by rw[hx]at z;exact z.elim);cases fl with
        |next=>exact wpAny_execs_nil (wpAny_execs_nil z)
        |ret v=>exact z
        |brk=>exact z
        |cont=>exact z
       |exc c h1'=>
        rw[er]at ee
        try dsimp only at ee
        split at ee
        ·rename_i hcm;cases ee;obtain⟨xc,exc⟩:∃xc,Γ.cls[c]?=some xc:=⟨_,wA hcm⟩
         obtain⟨C,hmC,hC⟩:=fx.cl c xc exc;have ca:CA X.mg Γ.cls c=some C:=by unfold CA;rw[exc];dsimp only;rw[hmC]
         obtain⟨D0,hm0,hD0⟩:=fx.cl 0 x (qT c4);have ca0:CA X.mg Γ.cls 0=some D0:=by unfold CA;rw[qT c4];dsimp only;rw[hm0]
         refine wpAny_execs_cons (wpAny_mono (h1 pins s0 σc H (λv _ H1=>v=.ref C/\∃φ1,Ext φ φ1/\Rl X.K G φ1 h1' H1) I ⟨φ,h,σ,c,C,h1',R,rs,er,ca,λφ1 H1 x1 R1=>⟨rfl,φ1,x1,R1⟩⟩) (λ_ _ z=>z.elim) λev s' t=>?_);rcases t with⟨σ1,s1,H1,sg,I1,ea,C2,H2,rfl,Fy,e2,φ1,x1,R1⟩|⟨z,_⟩|⟨z,_⟩
         case inr.inl=>rw[sole]at z;cases z
         case inr.inr=>rw[sole]at z;cases z
         cases sg sole;cases e2;have nd:X.N.Nodup:=by rw[f.hN];exact f.nd
         have hie:X.N[e]?=some n:=by rw[f.hN];exact qT ei
         have hiy:X.N[i]?=some y:=by rw[f.hN];exact qT ey
         have hloc:X.env.scope.names.lookup n=some .local:=by rw[f.sc];exact c5
         obtain⟨sy,sy2⟩:=f.store c6;have nei:e≠i:=by
          intro z;subst z;rw[hie]at hiy;cases hiy;exact c7 rfl
         refine qBJ I1 fx.stk fx.fra fx.exn nd hie hloc (f.gl' c2) hm0 (zM c1).1 (fx.ro c C D0 ca ca0) Fy (R7:=D.nx) (λoe s6 hcl I6=>?_) λσ7 H7 s8 _ _ _ _ _ _ _ _ I8 r=>⟨σ7,H7,I8,r⟩
         have hle:e<σc.length:=by rw[I1.len];exact(List.getElem?_eq_some_iff.mp hie).1
         refine wpAny_mono (L2.pss_one (L2.ps_set (X:=XE X ea oe λ_ _=>False) nd hiy sy (L2.pe_lst (qBI f fx ca hcl hC c3 c5 ei c8 c9 ek)) rfl sy2) pins s6 _ H2 { nx:=λσ7 H7=>D.nx (σ7.set e none) H7,rt:=λ_ _=>False } I6 ⟨by rw[wN hle],by rw[wL];exact Nat.le_trans hlen (by decide),λp hp=>?_⟩) (λfl s7 z=>?_) λ_ _ z=>z
         ·refine kk (φ1++[p]) (L2.upd H2 p (.lst (ks.map λk=>.bl (QY c k)))) (x1.trans ⟨[p],rfl⟩) (R1.newL hp (Z6 _ _ _)) _ ?_;show rst (φ1++[p]) ((σ.set i (some (.ref h1'.length))).set e none) (((σc.set e (some (.ref ea))).set i (some (.ref p))).set e none);have e3:((σc.set e (some (V.ref ea))).set i (some (V.ref p))).set e none=(σc.set i (some (V.ref p))).set e none:=by
           rw[List.set_comm _ _ nei.symm,List.set_set,List.set_comm _ _ nei]
          rw[e3];exact zA (R:=ropt (φ1++[p])) (x:=none) (u:=none) trivial e (zA (R:=ropt (φ1++[p])) (x:=some (.ref h1'.length)) (u:=some (.ref p)) ⟨_,rfl,R1.lastRef⟩ i (rst.mono (x1.trans ⟨[p],rfl⟩) rs))
         ·cases fl with
          |next=>obtain⟨σ7,H7,I7,q7⟩:=z;exact⟨rfl,σ7,H7,I7,q7⟩
          |ret v=>obtain⟨_,_,_,_,_,z⟩:=z;exact z.elim
          |brk=>obtain⟨_,_,_,z⟩:=z;exact z.elim
          |cont=>obtain⟨_,_,_,z⟩:=z;exact z.elim
        ·cases ee
      ·cases hh
     ·cases hh
    ·cases hh
   ·cases hh
  ·cases hh
 ·cases hh
end
section
variable{G:List Addr}{F:Nat->List V->AH->RV}
theorem ZM{Γ:Gam}{X:Cx}(f:Fit Γ X G F)(hx:∀x,Γ.own x=true){n:Nat}{elt:Expr}{gens:List Comprehension}{scope:Scope}{cpos p pos:Pos}{a:E}{x:Str}{g:Tg}(hd:qDc a=true)(h:trE n Γ (.ListComp elt gens scope cpos)=some a)
  (hg:trT Γ (.Name x ⟨0,0,0,0⟩)=some g):SS X G F (.Assign [.Name x p] (.ListComp elt gens scope cpos) pos) (.asg g a):=by
 cases n with
 |zero=>unfold trE at h;cases h
 |succ n=>
  unfold trT at hg;dsimp only at hg;split at hg
  ·rename_i hs;obtain⟨i,ei,rfl⟩:=Option.map_eq_some_iff.mp hg;obtain⟨h1,h2⟩:=f.store hs;obtain⟨iE,iA,iB,iC,iO,iIf,iI⟩:=zB (G:=G) (F:=F) n;unfold trE at h;dsimp only at h;split at h
   ·split at h;split at h
    ·split at h
     ·rename_i hc;simp only[Bool.and_eq_true]at hc;split at h
      ·rename_i it g c e' ei' eg ec ee;cases h;exact v3 f.calm (iI _ _ _ _ ei' X f) (jP f hc.1) (λC fp s H=>F2 (zl f hc.1 C fp s H) eg) (λC fp s H=>iIf _ _ _ ec _ (zl f hc.1 C fp s H)) (λC fp s H=>(iE _ _ _ ee _ (zl f hc.1 C fp s H)).1) (Js hc.2) (by rw[f.hN];exact f.nd) (by rw[f.hN];exact qT ei) h1 h2
      ·cases h
     ·cases h
    ·cases h
   ·cases h
  ·cases hg
theorem V6{Γ:Gam}{X:Cx}(f:Fit Γ X G F){e:Expr}{p:Nat×Es}{pos:Pos}(h:xOf Γ e=some p)(hc:zj e=true):SS X G F (.Expr e pos) (.xexpr p.1 p.2):=by
 have h0:=h;unfold xOf at h;split at h
 ·rename_i fn args kws cpos;split at h
  ·rename_i g gp a r;split at h
   ·rename_i hcc;simp only[Bool.and_eq_true]at hcc;split at h
    ·rename_i i' as' ei ea;cases h;obtain⟨⟨o1,o2⟩,o3⟩:=hcc;have hs:=o3;simp only[List.all_cons,Bool.and_eq_true]at hs;have s1:=QB (pos:=cpos) (p:=gp) (f.fns i' g (qT ei)) (f.gl' o2) (zM o1).1 hs.1 hs.2 ((zB (G:=G) (F:=F) 60).2.1 Γ _ _ ea o3 X f);refine je (N4 (pos:=pos) s1 hc) λD σc H q=>?_;obtain⟨φ,h,σ,o,h',R,rs,e,k⟩:=q;refine⟨φ,h,σ,o,h',R,rs,?_,k⟩;unfold ex at e ⊢;obtain⟨⟨xs,h1⟩,e1,e⟩:=Res.bind_inv e;obtain⟨⟨v,h2⟩,e2,e⟩:=Res.bind_inv e;unfold ev;rw[e1,Res.bind_ok];dsimp only at e2 e ⊢;rw[e2];exact e
    ·cases h
   ·cases h
  ·cases h
 ·cases h
theorem qAD{Γ:Gam}{X:Cx}(f:Fit Γ X G F){st:Stmt}{q:Nat×Nat×Es}(h0:xA Γ st=some q):SS X G F st (.xasg q.1 q.2.1 q.2.2):=by
 obtain⟨x,px,v,pos,rfl,hst,hc,ei0,h⟩:=l0 h0;obtain⟨j,i,as⟩:=q;dsimp only at *;unfold xOf at h;split at h
 ·rename_i fn args kws cpos;split at h
  ·rename_i g gp a r;split at h
   ·rename_i hcc;simp only[Bool.and_eq_true]at hcc;split at h
    ·rename_i i' as' ei ea;cases h;obtain⟨⟨o1,o2⟩,o3⟩:=hcc;have hs:=o3;simp only[List.all_cons,Bool.and_eq_true]at hs;have s1:=QB (pos:=cpos) (p:=gp) (f.fns i g (qT ei)) (f.gl' o2) (zM o1).1 hs.1 hs.2 ((zB (G:=G) (F:=F) 60).2.1 Γ _ _ ea o3 X f);have eg:trT Γ (.Name x px)=some (.name j):=by unfold trT;dsimp only;rw[if_pos hst,ei0];rfl
     refine je (L2.ps_asg s1 (F2 f (tg:=.Name x px) eg) (jX hc) rfl rfl) λD σc H q=>Jl ?_;obtain⟨φ,h,σ,o,h',R,rs,e,k⟩:=q;refine⟨φ,h,σ,o,h',R,rs,?_,k⟩;unfold ex at e ⊢;obtain⟨⟨xs,h1⟩,e1,e⟩:=Res.bind_inv e;obtain⟨⟨v,h2⟩,e2,e⟩:=Res.bind_inv e;unfold ev;rw[e1,Res.bind_ok];dsimp only at e2 e ⊢;rw[e2];exact e
    ·cases h
   ·cases h
  ·cases h
 ·cases h
theorem l7{Γ:Gam}{X:Cx}(f:Fit Γ X G F){e:Expr}{p:Nat×Es}{pos:Pos}(h:xOf Γ e=some p):SS X G F (.Return (some e) pos) (.xret p.1 p.2):=by
 unfold xOf at h;split at h
 ·rename_i fn args kws cpos;split at h
  ·rename_i g gp a r;split at h
   ·rename_i hcc;simp only[Bool.and_eq_true]at hcc;split at h
    ·rename_i i' as' ei ea;cases h;obtain⟨⟨o1,o2⟩,o3⟩:=hcc;have hs:=o3;simp only[List.all_cons,Bool.and_eq_true]at hs;have s1:=QB (pos:=cpos) (p:=gp) (f.fns i' g (qT ei)) (f.gl' o2) (zM o1).1 hs.1 hs.2 ((zB (G:=G) (F:=F) 60).2.1 Γ _ _ ea o3 X f);refine je (P9 (pos:=pos) s1) λD σc H q=>?_;obtain⟨φ,h,σ,o,h',R,rs,e,k⟩:=q;refine⟨φ,h,σ,o,h',R,rs,?_,k⟩;unfold ex at e ⊢;obtain⟨⟨xs,h1⟩,e1,e⟩:=Res.bind_inv e;obtain⟨⟨v,h2⟩,e2,e⟩:=Res.bind_inv e;unfold ev;rw[e1,Res.bind_ok];dsimp only at e2 e ⊢;rw[e2];exact e
    ·cases h
   ·cases h
  ·cases h
 ·cases h
theorem a6{Γ:Gam}{e:Expr}{p:COp×Nat×Es}(h:xN Γ e=some p):∃l j q2 q3,(p.1=.isnot\/p.1=.is)/\e=.Compare l [opC p.1] [.Constant .none j q2] q3/\xOf Γ l=some p.2:=by
 unfold xN at h;split at h
 ·split at h
  ·split at h
   ·split at h
    ·obtain⟨q,h1,rfl⟩:=Option.map_eq_some_iff.mp h;exact⟨_,_,_,_,.inl rfl,rfl,h1⟩
    ·obtain⟨q,h1,rfl⟩:=Option.map_eq_some_iff.mp h;exact⟨_,_,_,_,.inr rfl,rfl,h1⟩
    ·cases h
   ·cases h
  ·cases h
 ·cases h
theorem qB3{Γ:Gam}{X:Cx}(f:Fit Γ X G F){o:COp}(ho:o=.isnot\/o=.is){e:Expr}{j:Nat}{p:Nat×Es}{pos q2 q3:Pos}(h:xOf Γ e=some p):SS X G F (.Return (some (.Compare e [opC o] [.Constant .none j q2] q3)) pos) (.xrn o p.1 p.2):=by
 unfold xOf at h;split at h
 ·rename_i fn args kws cpos;split at h
  ·rename_i g gp a r;split at h
   ·rename_i hcc;simp only[Bool.and_eq_true]at hcc;split at h
    ·rename_i i' as' ei ea;cases h;obtain⟨⟨o1,o2⟩,o3⟩:=hcc;have hs:=o3;simp only[List.all_cons,Bool.and_eq_true]at hs;have s1:=QB (pos:=cpos) (p:=gp) (f.fns i' g (qT ei)) (f.gl' o2) (zM o1).1 hs.1 hs.2 ((zB (G:=G) (F:=F) 60).2.1 Γ _ _ ea o3 X f);have s2:SE X G F (.Compare (.Call (.Name g gp) (a::r) [] cpos) [opC o] [.Constant .none j q2] q3) (.cmp o (.call i' as') (.cst .non)):=Z3 f.hu s1 K7 (by rcases ho with rfl|rfl<;>rfl);refine je (P9 (pos:=pos) s2) λD σc H q=>?_;obtain⟨φ,h,σ,oo,h',R,rs,e,k⟩:=q;refine⟨φ,h,σ,oo,h',R,rs,?_,k⟩;unfold ex at e ⊢;obtain⟨⟨xs,h1⟩,e1,e⟩:=Res.bind_inv e;obtain⟨⟨v,h2⟩,e2,e⟩:=Res.bind_inv e;obtain⟨⟨w,h3⟩,e3,e⟩:=Res.bind_inv e;have c1:ev F (.call i' as') σ h=.ok (v,h2):=by
      unfold ev;rw[e1,Res.bind_ok];dsimp only at e2 ⊢;rw[e2];rfl
     have c2:ev F (.cst .non) σ h2=.ok (.non,h2):=by unfold ev;rfl
     have c3:ev F (.cmp o (.call i' as') (.cst .non)) σ h=.ok (w,h3):=by
      unfold ev;rw[c1,Res.bind_ok];dsimp only;rw[c2,Res.bind_ok];exact e3
     rw[c3,Res.bind_ok];exact e
    ·cases h
   ·cases h
  ·cases h
 ·cases h
theorem E7{s:S}(h:s.clean=true)(h1:∀f as,s≠.xexpr f as)(h2:∀c,s≠.raise c)(h3:∀c t u,s≠.ifs c t u)(h4:∀i f as,s≠.xasg i f as)(h5:∀f as,s≠.xret f as)(h6:∀o f as,s≠.xrn o f as)(h7:∀g it b,s≠.for_ g it b):s.calm=true:=by
 cases s<;>first|(exact absurd rfl (h7 _ _ _))|(exact absurd rfl (h4 _ _ _))|(exact absurd rfl (h5 _ _))|(exact absurd rfl (h6 _ _ _))|(exact absurd rfl (h1 _ _))|(exact absurd rfl (h2 _))|(exact absurd rfl (h3 _ _ _))|(rw[S.clean]at h<;>first|exact h|(intros;contradiction))
noncomputable def S.fx:S->Bool
 | .xexpr _ _=>false
 | .xasg _ _ _=>false
 | .xret _ _=>false
 | .xrn _ _ _=>false
 | .raise _=>false
 | .ifs _ _ _=>false
 | .for_ _ _ _=>false
 |_=>true
noncomputable def qAS:Stmt->Bool
 | .Expr _ _=>true
 | .Raise _ _ _=>true
 | .If _ _ _ _=>true
 | .Return (some _) _=>true
 | .For _ _ _ _ _=>true
 |_=>false
theorem G2{st:Stmt}(h:qAS st=true):(∃e p,st=.Expr e p)\/(∃a b p,st=.Raise a b p)\/(∃c t u p,st=.If c t u p)\/(∃e p,st=.Return (some e) p)\/(∃tg it b els p,st=.For tg it b els p):=by
 cases st with
 |Expr e q=>exact .inl ⟨_,_,rfl⟩
 |Raise a b q=>exact .inr (.inl ⟨_,_,_,rfl⟩)
 |If c t u q=>exact .inr (.inr (.inl ⟨_,_,_,_,rfl⟩))
 |Return r q=>cases r with
  |some e=>exact .inr (.inr (.inr (.inl ⟨_,_,rfl⟩)))
  |none=>cases h
 |For tg it b els p=>exact .inr (.inr (.inr (.inr ⟨_,_,_,_,_,rfl⟩)))
 |_=>cases h
theorem qDN(n:Nat)(Γ:Gam)(st:Stmt)(h:qAS st=false):(trS (n+1) Γ st).fx=true:=by
 unfold trS;split
 ·(repeat' split)<;>rfl
 ·cases h
 ·cases h
 ·(repeat' split)<;>rfl
 ·(repeat' split)<;>first|rfl|cases h
 ·cases h
 ·cases h
 all_goals ((repeat' split)<;>rfl)
theorem JE(n:Nat):(∀ Γ st (X:Cx),Fit Γ X G F->FitX Γ X G F->(∀x,Γ.own x=true)->X.xe=(λ_ _=>False)->SS X G F st (trS n Γ st))/\(∀ Γ sts (X:Cx),Fit Γ X G F->FitX Γ X G F->(∀x,Γ.own x=true)->X.xe=(λ_ _=>False)->SSs X G F sts (QW n Γ sts))/\
  (∀ Γ st (X:Cx),Fit Γ X G F->FitX Γ X G F->(∀x,Γ.own x=true)->(trS n Γ st).clean=true->SX X G F Γ.cls st (trS n Γ st))/\(∀ Γ sts (X:Cx),Fit Γ X G F->FitX Γ X G F->(∀x,Γ.own x=true)->(QW n Γ sts).clean=true->SXs X G F Γ.cls sts (QW n Γ sts)):=by
 induction n with
 |zero=>
  refine⟨fun Γ st X f fx ho hx=>?_,fun Γ sts X f fx ho hx=>?_,fun Γ st X f fx ho hc=>?_,fun Γ sts X f fx ho hc=>?_⟩
  ·unfold trS;exact qX
  ·unfold QW;intro pins s σ H D I q;obtain⟨φ,h,σa,o,h',R,rs,e,k⟩:=q;unfold exs ex at e;cases e
  ·unfold trS;exact qx rfl
  ·unfold QW;intro pins s0 σc H Ex I q;obtain⟨φ,h,σ,cc,C,h',R,rs,e,ca,k⟩:=q;unfold exs ex at e;cases e
 |succ n ih=>
  obtain⟨i1,i2,i3,i4⟩:=ih;obtain⟨iE,iA,iB,iC,iO,iIf,iI⟩:=zB (G:=G) (F:=F) 60;refine⟨fun Γ st X f fx ho hx=>?_,fun Γ sts X f fx ho hx=>?_,fun Γ st X f fx ho hc=>?_,fun Γ sts X f fx ho hc=>?_⟩
  ·unfold trS;split
   ·split
    ·split
     ·rename_i v pos _ _ x p;split
      ·rename_i g a eg ea;split
       ·rename_i hd;by_cases hc:zj v=true
        ·refine je (L2.ps_asg (iE _ _ _ ea X f).1 (F2 f (tg:=.Name x p) eg) (jX hc) (by cases v<;>rfl) rfl) λ_ _ _=>Jl
        ·cases v with
         |ListComp elt gens scope cpos=>exact ZM f ho hd ea eg
         |SetComp elt gens scope cpos=>unfold trE at ea;cases ea
         |DictComp k elt gens scope cpos=>unfold trE at ea;cases ea
         |_=>exact absurd rfl hc
       ·exact qX
      ·exact qX
     ·split
      ·rename_i hc;simp only[Bool.and_eq_true]at hc;split
       ·rename_i o' i' v' eo ei ev;exact qBg f.hu (iE _ _ _ eo X f).1 (iE _ _ _ ei X f).1 (iE _ _ _ ev X f).1 hc.1 hc.2
       ·exact qX
      ·exact qX
     ·exact qX
    ·exact qX
   ·split
    ·rename_i hc;split
     ·rename_i p ep;exact V6 f ep hc
     ·split
      ·rename_i a ea;exact N4 (iE _ _ _ ea X f).1 hc
      ·exact qX
    ·exact qX
   ·split
    ·intro pins s0 σ H D I q;obtain⟨φ,h,σa,o,h',R,rs,e,k⟩:=q;unfold ex at e;cases e
    ·exact qX
   ·split
    ·split
     ·rename_i p ep;split
      ·rename_i q eq;exact f7 f fx hx (e:=p.1) (i:=p.2.1) (ks:=p.2.2) ep (qAD f eq) (qAN f fx eq) rfl
      ·split
       ·rename_i hcc;rw[Bool.and_eq_true]at hcc;exact f7 f fx hx (e:=p.1) (i:=p.2.1) (ks:=p.2.2) ep (i1 _ _ X f fx ho hx) (i3 _ _ X f fx ho hcc.2) hcc.1
       ·exact qX
     ·exact qX
    ·exact qX
   ·split
    ·split
     ·rename_i p ep;unfold xR at ep;split at ep
      ·exact l7 f ep
      ·cases ep
     ·split
      ·rename_i p ep;obtain⟨l,j,q2,q3,ho,rfl,ep2⟩:=a6 ep;exact qB3 f ho ep2
      ·split
       ·rename_i a ea;exact P9 (iE _ _ _ ea X f).1
       ·exact qX
    ·exact qX
   ·split
    ·rename_i a ea;exact qB4 (iE _ _ _ ea X f).2 (i2 _ _ X f fx ho hx) (i2 _ _ X f fx ho hx)
    ·exact qX
   ·split
    ·split
     ·rename_i hs;split
      ·rename_i it g ei eg;exact qBE hx f.calm (iI _ _ _ _ ei X f) (F2 f eg) (i2 _ _ X f fx ho hx) (Js hs)
      ·exact qX
     ·exact qX
    ·exact qX
   ·exact qX
  ·cases sts with
   |nil=>unfold QW;exact qAM
   |cons s r=>unfold QW;exact T4 (i1 _ _ X f fx ho hx) (i2 _ _ X f fx ho hx)
  ·rcases(Bool.eq_false_or_eq_true (qAS st)).imp G2 (λh=>qDN n Γ st h) with(⟨e,p,rfl⟩|⟨a,b,p,rfl⟩|⟨c,t,u,p,rfl⟩|⟨e,p,rfl⟩|⟨tg,iter,bd,els,p,rfl⟩)|hf
   ·unfold trS at hc ⊢;dsimp only at hc ⊢;split
    ·rename_i hn;split
     ·rename_i p ep;exact T6 f fx ep hn
     ·split
      ·exact qx rfl
      ·exact qx rfl
    ·exact qx rfl
   ·unfold trS;dsimp only;split
    ·rename_i c ec;exact X6 f fx ec
    ·exact qx rfl
   ·unfold trS at hc ⊢;dsimp only at hc ⊢;split
    ·rename_i c' ec;rw[ec]at hc;dsimp only at hc;rw[S.clean,Bool.and_eq_true]at hc;exact qCH (λE=>(iE _ _ _ ec _ (f.wish E)).2) (i4 _ _ X f fx ho hc.1) (i4 _ _ X f fx ho hc.2)
    ·exact qx rfl
   ·unfold trS;dsimp only;split
    ·rename_i p ep;unfold xR at ep;split at ep
     ·exact r6 f fx ep
     ·cases ep
    ·split
     ·rename_i p ep;obtain⟨l,j,q2,q3,ho,rfl,ep2⟩:=a6 ep;exact qBP f fx ep2
     ·split
      ·exact qx rfl
      ·exact qx rfl
   ·unfold trS at hc ⊢;dsimp only at hc ⊢;cases els with
    |cons a r=>exact qx rfl
    |nil=>
     dsimp only at hc ⊢;by_cases hs:Zy iter=true
     ·rw[if_pos hs]at hc ⊢;cases ei:trI 60 Γ tg iter with
      |none=>exact qx rfl
      |some it=>
       cases eg:trT Γ tg with
       |none=>exact qx rfl
       |some g=>
        rw[ei,eg]at hc;exact qBd f fx (λE=>iI _ _ _ _ ei _ (f.wish E)) (λE=>F2 (f.wish E) eg) (i2 _ _ X.nox (f.wish _) (fx.wish _) ho rfl) (i4 _ _ X f fx ho hc) (Js hs)
     ·rw[if_neg hs];exact qx rfl
   ·exact qx (E7 hc (λf as z=>by rw[z]at hf;cases hf) (λc z=>by rw[z]at hf;cases hf) (λc t u z=>by rw[z]at hf;cases hf) (λi f as z=>by rw[z]at hf;cases hf) (λf as z=>by rw[z]at hf;cases hf) (λo f as z=>by rw[z]at hf;cases hf) λg it b z=>by rw[z]at hf;cases hf)
  ·cases sts with
   |nil=>unfold QW;exact y9
   |cons s r=>
    unfold QW at hc ⊢;rw[Ss.clean,Bool.and_eq_true]at hc;exact V9 (i1 _ _ X.nox (f.wish _) (fx.wish _) ho rfl) (i3 _ _ X f fx ho hc.1) (i4 _ _ X f fx ho hc.2)
end
theorem len1{α:Type}{us:List α}(h:us.length=1):∃a,us=[a]:=List.length_eq_one_iff.mp h
theorem len2{α:Type}{us:List α}(h:us.length=2):∃a b,us=[a,b]:=by
 cases us with
 |nil=>cases h
 |cons a r=>obtain⟨b,rfl⟩:=len1 (us:=r) (by simpa using h);exact⟨a,b,rfl⟩
theorem len3{α:Type}{us:List α}(h:us.length=3):∃a b c,us=[a,b,c]:=by
 cases us with
 |nil=>cases h
 |cons a r=>obtain⟨b,c,rfl⟩:=len2 (us:=r) (by simpa using h);exact⟨a,b,c,rfl⟩
structure JW where
 x:Str
 st:Stmt
 ps:List Str
 N:List Str
structure Tbl where
 ds:List JW
 gl:List (Str×E)
 bl:List Str
 cls:List Str:=[]
 xr:List Str:=[]
noncomputable def Tbl.gam(T:Tbl)(d:JW):Gam:=⟨d.N,L2.defScope d.st,T.ds.map (·.x),T.gl,T.bl,λ_=>true,T.cls,T.xr.contains d.x⟩
noncomputable def jz(b:Ss):Ss:=if b.clean=true then b else .cons .stop .nil
noncomputable def Tbl.fn(T:Tbl)(d:JW):Fn:=⟨d.ps.length,d.N.length,jz (QW 60 (T.gam d) (L2.defBody d.st))⟩
noncomputable def Tbl.fns(T:Tbl):List Fn:=T.ds.map T.fn
structure ClsOk(K:PySem.W.Frag)(mg:Str->Option Value)(cn:List Str):Prop where
 cl:∀(c:Nat) x,cn[c]?=some x->∃C,mg x=some (.ref C)/\G6 K C
 sb:∀c k C D,CA mg cn c=some C->CA mg cn k=some D->PySem.W.kitOne K (.ref C) (.ref D)=some (QY c k)
 sv:∀c C,CA mg cn c=some C->PySem.W.kitOne K (.ref C) (.type "ValueError")=some true
 ro:∀c C D,CA mg cn c=some C->CA mg cn 0=some D->PySem.W.exmOne K (.ref C) (.ref D)=some true
 xs:Xs K mg cn
theorem ClsOk.nil{K:PySem.W.Frag}{mg:Str->Option Value}:ClsOk K mg []:=
 ⟨λc x h=>by simp at h,λc k C D h=>by obtain⟨x,e,_⟩:=J7 h;simp at e,λc C h=>by obtain⟨x,e,_⟩:=J7 h;simp at e,λc C D h=>by obtain⟨x,e,_⟩:=J7 h;simp at e,⟨λx h=>by simp at h,λx h=>by simp at h⟩⟩
structure J9(K:PySem.W.Frag)(mg:Str->Option Value)(G:List Addr)(T:Tbl)(fa:List Addr)(fd:List FuncData):Prop where
 def_:∀(i:Nat) d,T.ds[i]?=some d->∃a f,fa[i]?=some a/\fd[i]?=some f/\Fun K d.x d.x d.st a f/\qu d.N d.ps (L2.defScope d.st)/\mg d.x=some (.ref a)/\Binds K f d.ps []
 gls:∀x e,T.gl.lookup x=some e->(∃v u,e=.cst v/\mg x=some u/\RelV v u/\∀φ,rv φ v v)\/(∃g a,e=.glob g/\mg x=some (.ref a)/\G[g]?=some a)
 blt:∀x,T.bl.contains x=true->mg x=none
 cls:ClsOk K mg T.cls
 gtu:∀a∈G,∃o,K.lookup a=some o/\o.cls=.type "tuple"/\o.dict=none
theorem Zz{φ:List Addr}{ws vs:List V}(r:rvs φ ws vs)(n:Nat):rst φ (ws.map some++List.replicate n none) (vs.map some++List.replicate n none):=by
 refine qI ?_ ?_
 ·induction r with
  |nil=>exact .nil
  |cons h t ih=>exact .cons ⟨_,rfl,h⟩ ih
 ·induction n with
  |zero=>exact .nil
  |succ n ih=>exact .cons trivial ih
section
variable{P:Program}{w:World}{K:PySem.W.Frag}{mg:Str->Option Value}{base:Heap}{G:List Addr}{T:Tbl}{fa:List Addr}{fd:List FuncData}
theorem qBv{k i:Nat}{d:JW}(h1:T.ds[i]?=some d){ws:List V}{h h':AH}{v:V}(e:Fk T.fns (k+1) i ws h=.ok (v,h')):ws.length=d.ps.length/\d.ps.length<=d.N.length/\∃o,exs (Fk T.fns k) (QW 60 (T.gam d) (L2.defBody d.st)) (ws.map some++List.replicate (d.N.length-d.ps.length) none) h=.ok (o,h')/\
  ((∃σ,o=.nx σ/\v=.non)\/o=.rt v):=by
 unfold Fk at e;have ht:T.fns[i]?=some (T.fn d):=by unfold Tbl.fns;rw[wK,h1];rfl
 rw[ht]at e;dsimp only at e;split at e
 ·rename_i hc;obtain⟨⟨o,h2⟩,e2,e⟩:=Res.bind_inv e;have e3:exs (Fk T.fns k) (jz (QW 60 (T.gam d) (L2.defBody d.st))) (ws.map some++List.replicate (d.N.length-d.ps.length) none) h=.ok (o,h2):=e2;have e4:exs (Fk T.fns k) (QW 60 (T.gam d) (L2.defBody d.st)) (ws.map some++List.replicate (d.N.length-d.ps.length) none) h=.ok (o,h2):=by
   unfold jz at e3;split at e3
   ·exact e3
   ·unfold exs ex at e3;cases e3
  refine⟨hc.1,hc.2,o,?_,?_⟩
  ·cases o<;>cases e<;>exact e4
  ·cases o with
   |nx σ=>cases e;exact .inl ⟨σ,rfl,rfl⟩
   |rt u=>cases e;exact .inr rfl
   |bk σ=>cases e
   |ct σ=>cases e
 ·cases e
theorem i7{k i c:Nat}{d:JW}(h1:T.ds[i]?=some d){ws:List V}{h h':AH}(e:Fk T.fns (k+1) i ws h=.exc c h'):ws.length=d.ps.length/\d.ps.length<=d.N.length/\(QW 60 (T.gam d) (L2.defBody d.st)).clean=true/\exs (Fk T.fns k) (QW 60 (T.gam d) (L2.defBody d.st)) (ws.map some++List.replicate (d.N.length-d.ps.length) none) h=.exc c h':=by
 unfold Fk at e;have ht:T.fns[i]?=some (T.fn d):=by unfold Tbl.fns;rw[wK,h1];rfl
 rw[ht]at e;dsimp only at e;split at e
 ·rename_i hc;have e3:(exs (Fk T.fns k) (jz (QW 60 (T.gam d) (L2.defBody d.st))) (ws.map some++List.replicate (d.N.length-d.ps.length) none) h).bind (λ(o,h1)=>match o with | .nx _=>Res.ok (V.non,h1) | .rt v=>.ok (v,h1)|_=>.stuck)=.exc c h':=e;unfold jz at e3;split at e3
  ·rename_i hcl;refine⟨hc.1,hc.2,hcl,?_⟩;revert e3;generalize exs (Fk T.fns k) (QW 60 (T.gam d) (L2.defBody d.st)) _ h=r;intro e3;cases r with
   |stuck=>cases e3
   |exc c2 h2=>cases e3;rfl
   |ok p=>obtain⟨o,h2⟩:=p;cases o<;>cases e3
  ·unfold exs ex at e3;cases e3
 ·cases e
theorem h9(O:J9 K mg G T fa fd){k:Nat}{d:JW}(f0:∀(i:Nat) d a f,T.ds[i]?=some d->fa[i]?=some a->fd[i]?=some f->FnOk P w K mg base L2.CX0 (2*k) a f d.ps (spF G (Fk T.fns k) K i))(f1:∀(i:Nat) d a f,T.ds[i]?=some d->fa[i]?=some a->fd[i]?=some f->FnOk P w K mg base (CX1 P w) (2*k) a f d.ps (spX mg T.cls G (Fk T.fns k) K i))
  (hS:qu d.N d.ps (L2.defScope d.st)) (CX:L2.CXT) (a:Addr) (cdv:Value) (A:Around) (outer:List Env) (s:Shared) (H:Hp) (E:L2.XK) (E2:Value->Shared->Prop) (hr:Room (2*k+1) (A.deeper (envOfC d.x (L2.defScope d.st) s.heap.objs.size a cdv))):
  Fit (T.gam d) ((L2.cxOf CX P w K mg base d.N d.x (L2.defScope d.st) a cdv A outer s H E).wish E2) G (Fk T.fns k)/\FitX (T.gam d) ((L2.cxOf CX P w K mg base d.N d.x (L2.defScope d.st) a cdv A outer s H E).wish E2) G (Fk T.fns k):=by
 have get:∀(g:Nat) x,(T.gam d).fns[g]?=some x->∃d2 a2 f2,T.ds[g]?=some d2/\d2.x=x/\fa[g]?=some a2/\fd[g]?=some f2/\mg x=some (.ref a2)/\PySem.W.keepIn K (.ref a2)=true/\Binds K f2 d2.ps []:=λg x eg=>by
  have eg':(T.ds.map (·.x))[g]?=some x:=eg;rw[wK]at eg';cases hd:T.ds[g]? with
  |none=>rw[hd]at eg';cases eg'
  |some d2=>
   rw[hd]at eg';cases eg';obtain⟨a2,f2,q1,q2,q3,q4,q5,q6⟩:=O.def_ g d2 hd;exact⟨d2,a2,f2,rfl,rfl,q1,q2,q5,q3.kp,q6⟩
 refine⟨⟨rfl,hS.nd,rfl,rfl,λ_ _=>rfl,λg x eg=>?_,O.gls,O.blt,?_,hr.gd,O.gtu,O.cls.xs⟩,⟨rfl,rfl,rfl,λg x eg=>?_,O.cls.cl,O.cls.sb,O.cls.sv,O.cls.ro⟩⟩
 ·obtain⟨d2,a2,f2,q1,rfl,q2,q3,q4,q5,q6⟩:=get g x eg;exact⟨2*k,a2,f2,d2.ps,f0 g d2 a2 f2 q1 q2 q3,hr.mono (Nat.le_succ _),q4,q5,q6,hr.in1⟩
 ·have:=hr.units;show (A.deeper (envOfC d.x (L2.defScope d.st) s.heap.objs.size a cdv)).units+8<cLine;omega
 ·obtain⟨d2,a2,f2,q1,rfl,q2,q3,q4,q5,q6⟩:=get g x eg;exact⟨2*k,a2,f2,d2.ps,f1 g d2 a2 f2 q1 q2 q3,hr.mono (Nat.le_succ _),q4,q5,q6⟩
theorem J0(O:J9 K mg G T fa fd):∀(k:Nat),(∀(i:Nat) d a f,T.ds[i]?=some d->fa[i]?=some a->fd[i]?=some f->FnOk P w K mg base L2.CX0 (2*k) a f d.ps (spF G (Fk T.fns k) K i))/\
  (∀(i:Nat) d a f,T.ds[i]?=some d->fa[i]?=some a->fd[i]?=some f->FnOk P w K mg base (CX1 P w) (2*k) a f d.ps (spX mg T.cls G (Fk T.fns k) K i))
 | 0=>⟨λi d a f h1 h2 h3=>⟨(λvs H Q E h=>by obtain⟨_,_,_,_,_,_,_,e,_⟩:=h;unfold Fk at e;cases e),(λA outer s H args us vs Q E hr e0 hb r h=>by obtain⟨_,_,_,_,_,_,_,e,_⟩:=h;unfold Fk at e;cases e)⟩,
   λi d a f h1 h2 h3=>⟨(λvs H Q E h=>by obtain⟨_,_,_,_,_,_,_,_,e,_⟩:=h;unfold Fk at e;cases e),(λA outer s H args us vs Q E hr e0 hb r h=>by obtain⟨_,_,_,_,_,_,_,_,e,_⟩:=h;unfold Fk at e;cases e)⟩⟩
 |k+1=>by
  obtain⟨f0,f1⟩:=J0 O k;refine⟨λi d a f h1 h2 h3=>?_,λi d a f h1 h2 h3=>?_⟩
  ·obtain⟨a',f',e1,e2,hF,hS,hm,hB⟩:=O.def_ i d h1;rw[h2]at e1;cases e1;rw[h3]at e2;cases e2;refine hF.ok hS (λvs H Q E h=>?_) (λcdv A outer s H vs Q E hr h=>?_)
   ·obtain⟨φ,h0,ws,v,h',R,r,e,_⟩:=h;rw[<-Paired.length r];exact(qBv h1 e).1
   ·obtain⟨φ,h0,ws,v,h',R,r,e,kk⟩:=h;obtain⟨l1,l2,o,eo,ho⟩:=qBv h1 e;obtain⟨fit,fitx⟩:=h9 O f0 f1 hS L2.CX0 a cdv A outer s H E (λ_ _=>False) hr;refine⟨_,(JE (G:=G) (F:=Fk T.fns k) 60).2.1 (T.gam d) (L2.defBody d.st) _ fit fitx (λ_=>rfl) rfl,φ,h0,_,o,h',R,?_,eo,λφ' H' x' R'=>?_⟩
    ·unfold L2.start;rw[<-Paired.length r,l1];exact Zz r _
    ·rcases ho with⟨σ,rfl,rfl⟩|rfl
     ·exact λσc _=>kk φ' H' .non x' R' trivial
     ·exact λu ru=>kk φ' H' u x' R' ru
  ·obtain⟨a',f',e1,e2,hF,hS,hm,hB⟩:=O.def_ i d h1;rw[h2]at e1;cases e1;rw[h3]at e2;cases e2;obtain⟨oc,od,kV,doc,pm,an,cdv,ct,osl,rfl,lk,hcd⟩:=hF.ex;refine L2.fn_of lk hcd hS (λvs H Q E h=>?_) λA outer s H vs Q E hr h=>?_
   ·obtain⟨φ,h0,ws,c,C,h',R,r,e,_⟩:=h;rw[<-Paired.length r];exact(i7 h1 e).1
   ·obtain⟨φ,h0,ws,c,C,h',R,r,e,ca,kk⟩:=h;obtain⟨l1,l2,cl,eo⟩:=i7 h1 e;obtain⟨fit,fitx⟩:=h9 O f0 f1 hS (CX1 P w) a cdv A outer s H E (L2.cxOf (CX1 P w) P w K mg base d.N d.x (L2.defScope d.st) a cdv A outer s H E).xe hr;refine⟨λ_ σc H1=>tX (L2.cxOf (CX1 P w) P w K mg base d.N d.x (L2.defScope d.st) a cdv A outer s H E) G T.cls (exs (Fk T.fns k) (QW 60 (T.gam d) (L2.defBody d.st))) σc H1 E,λpins s1 σc H1 D I q=>?_,φ,h0,_,c,C,h',R,?_,eo,ca,kk⟩
    ·refine wpAny_mono ((JE (G:=G) (F:=Fk T.fns k) 60).2.2.2 (T.gam d) (L2.defBody d.st) _ fit fitx (λ_=>rfl) cl pins s1 σc H1 E I q) (λ_ _ z=>z.elim) λev s' z=>?_;exact wpAny_mono (z.out fitx) (λ_ s3 z=>z) λ_ _ z=>z.elim
    ·unfold L2.start;rw[<-Paired.length r,l1];exact Zz r _
theorem S5(O:J9 K mg G T fa fd)(k i:Nat)(d:JW)(a:Addr)(f:FuncData)(h1:T.ds[i]?=some d)(h2:fa[i]?=some a)(h3:fd[i]?=some f):FnOk P w K mg base L2.CX0 (2*k) a f d.ps (spF G (Fk T.fns k) K i):=(J0 O k).1 i d a f h1 h2 h3
end
noncomputable def Y3(K:PySem.W.Frag):L2.Sp:=λvs H Q _=>∃(a:Addr) (ns:List Int),vs=[.ref a]/\L2.Only H/\SqL K H a (ns.map V.int)/\ns.length<=63/\∀H',Q (.bl true) H'
noncomputable def ZX(gs:List O)(ns:List Int):AH:=gs++[.lst true (ns.map V.int)]
def C8(K:PySem.W.Frag):List Addr->List O->Prop
 | [],[]=>True
 |a::as,.tup xs::os=>(SqT K (λ_=>none) a xs/\xs.all flat=true)/\C8 K as os
 |_,_=>False
theorem ZP{φ:List Addr}:∀{xs:List V},xs.all flat=true->rvs φ xs xs
 | [],_=>.nil
 |x::xs,h=>by
  simp only[List.all_cons,Bool.and_eq_true]at h;refine .cons ?_ (ZP h.2);cases x<;>first|rfl|exact trivial|(cases h.1)
theorem V0{K:PySem.W.Frag}{H:Hp}{a:Addr}{xs:List V}(q:SqT K (λ_=>none) a xs):SqT K H a xs:=by
 rcases q with(h|⟨o,h⟩)|h
 ·cases h
 ·cases h
 ·exact .inr h
theorem Qf{K:PySem.W.Frag}:∀{as:List Addr}{os:List O},C8 K as os->as.length=os.length/\∀(i:Nat) o a,os[i]?=some o->as[i]?=some a->∃xs,o=.tup xs/\SqT K (λ_=>none) a xs/\xs.all flat=true
 | [],[],_=>⟨rfl,λi o a h=>by simp at h⟩
 | [],_::_,h=>False.elim h
 |_::_,[],h=>False.elim h
 |a::as,.lst _ _::os,h=>False.elim h
 |a::as,.tup xs::os,h=>by
  obtain⟨h1,h2⟩:=h;obtain⟨l,k⟩:=Qf h2;refine⟨by simp[l],λi o b e1 e2=>?_⟩;cases i with
  |zero=>simp at e1 e2;subst e1 e2;exact⟨xs,rfl,h1⟩
  |succ i=>exact k i o b (by simpa using e1) (by simpa using e2)
theorem L8{P:Program}{w:World}{K:PySem.W.Frag}{mg:Str->Option Value}{base:Heap}{G:List Addr}{gs:List O}{T:Tbl}{fa:List Addr}{fd:List FuncData}(O:J9 K mg G T fa fd)(hG:C8 K G gs){k i:Nat}{d:JW}{a:Addr}{f:FuncData}
  (h1:T.ds[i]?=some d) (h2:fa[i]?=some a) (h3:fd[i]?=some f) (hp:d.ps=(["_law_script"]:List Str)) (main:∀ns:List Int,ns.length<=63->∃h',Fk T.fns k i [.ref gs.length] (ZX gs ns)=.ok (.bl true,h')):
  FnOk P w K mg base L2.CX0 (2*k) a f (["_law_script"]:List Str) (Y3 K):=by
 have F:=S5 (P:=P) (w:=w) (base:=base) O k i d a f h1 h2 h3;rw[hp]at F;refine⟨λvs H Q E h=>by obtain⟨b,ns,rfl,_⟩:=h;rfl,λA outer s H args us vs Q E hr e0 hb r h=>?_⟩;obtain⟨b,ns,rfl,hO,hS,hl,q⟩:=h;obtain⟨h',e⟩:=main ns hl;obtain⟨lg,kg⟩:=Qf hG;refine F.run A outer s H args us _ Q E hr e0 hb r ⟨G++[b],ZX gs ns,[.ref gs.length],.bl true,h',⟨by unfold ZX;simp[lg],⟨[b],rfl⟩,λj o c e1 e2=>?_,λj l xs ys c e1 e2 e3 e4=>?_⟩,.cons (by show (G++[b])[gs.length]?=some b;rw[<-lg];simp) .nil,e,λφ' H' u x' R' ru=>by rw[zH ru];exact q H'⟩
 ·unfold ZX at e1;by_cases hj:j<gs.length
  ·rw[List.getElem?_append_left hj]at e1;rw[List.getElem?_append_left (by omega)]at e2;obtain⟨xs,rfl,h5,h6⟩:=kg j o c e1 e2;exact⟨xs,V0 h5,ZP h6⟩
  ·have hj':j=gs.length:=by
    have:=(List.getElem?_eq_some_iff.mp e1).1;simp at this;omega
   subst hj';simp at e1;rw[<-lg]at e2;simp at e2;subst e1 e2;refine⟨ns.map V.int,?_,ZP (L9 ns)⟩;rcases hS with(z|⟨ob,z⟩)|z
   ·rcases hO b with y|⟨ob,xs,y⟩<;>(rw[y]at z;cases z)
   ·exact .inl ⟨ob,z⟩
   ·exact .inr (.inr z)
 ·have no:∀{m:Nat}{z:PI.O},z.mu=true->(ZX gs ns)[m]?=some z->False:=λ{m zs} mz em=>by
   unfold ZX at em;by_cases hj:m<gs.length
   ·rw[List.getElem?_append_left hj]at em;obtain⟨xs,ex,_⟩:=kg m _ (G[m]'(by omega)) em (wA (by omega));subst ex;cases mz
   ·have hj':m=gs.length:=by
     have:=(List.getElem?_eq_some_iff.mp em).1;simp at this;omega
    subst hj';simp at em;subst em;cases mz
  exact(no ‹_› ‹_›).elim
open L2
theorem ClsOk.of{K:PySem.W.Frag}{mg:Str->Option Value}{cn:List Str}{Cs:List Addr}(hm:∀(c:Nat) x,cn[c]?=some x->∃C,Cs[c]?=some C/\mg x=some (.ref C)/\PySem.W.nsIn K mainGlobals x=some (some (.ref C)))
  (hx:∀(c:Nat) C,Cs[c]?=some C->G6 K C/\PySem.W.kitOne K (.ref C) (.type "ValueError")=some true)
  (hs:∀(c k:Nat) C D,Cs[c]?=some C->Cs[k]?=some D->PySem.W.kitOne K (.ref C) (.ref D)=some (QY c k))
  (hr:∀(c:Nat) C D,Cs[c]?=some C->Cs[0]?=some D->PySem.W.exmOne K (.ref C) (.ref D)=some true)
  (hn:cn.Nodup) (h0:cn[0]?=some ("HealError":Str)) (hv:("ValueError":Str)∉cn) (hl:cn.length<999):ClsOk K mg cn:=by
 have up:∀{c:Nat}{C:Addr},CA mg cn c=some C->Cs[c]?=some C:=λ{c C} h=>by
  obtain⟨x,e,em⟩:=J7 h;obtain⟨D,hD,eD,_⟩:=hm c x e;cases em.symm.trans eD;exact hD
 refine⟨λc x h=>by obtain⟨C,hC,e,_⟩:=hm c x h;exact⟨C,e,(hx c C hC).1⟩,λc k C D h1 h2=>hs c k C D (up h1) (up h2),λc C h=>(hx c C (up h)).2,λc C D h1 h2=>hr c C D (up h1) (up h2),⟨λx h=>?_,λx h1 y h2 C D m1 m2=>?_⟩⟩
 ·obtain⟨c,e⟩:=wv.mp h;obtain⟨C,hC,e1,e2⟩:=hm c x e;exact⟨C,e1,e2,(hx c C hC).1,(hx c C hC).2⟩
 ·obtain⟨c,e1⟩:=wv.mp h1;obtain⟨k,e2⟩:=wv.mp h2;obtain⟨C',hC,q1,_⟩:=hm c x e1;obtain⟨D',hD,q2,_⟩:=hm k y e2;rw[m1]at q1;cases q1;rw[m2]at q2;cases q2;rw[hs c k C D hC hD];have one:∀{i j:Nat}{z z':Str},cn[i]?=some z->cn[j]?=some z'->(i=j↔z=z'):=λ{i j z z'} a b=>⟨λh=>by subst h;rw[a]at b;cases b;rfl,λh=>L2.nodup_ix hn a (h ▸ b)⟩
  have lk:=(List.getElem?_eq_some_iff.mp e2).1;have b1:(k==c)=decide (y=x):=by rw[wa];simp[one e2 e1]
  have b2:(k==0)=decide (y="HealError"):=by rw[wa];simp[one e2 h0]
  have b3:(k==999)=false:=by simp;omega
  have b4:decide (y=("ValueError":Str))=false:=by simp;rintro rfl;exact hv h2
  unfold QY qEX;rw[b1,b2,b3,b4]
structure Y8(K:PySem.W.Frag)(x:Str)(C:Addr):Prop where
 a:PySem.W.nsIn K mainGlobals x=some (some (.ref C))
 b:G6 K C
 j:PySem.W.kitOne K (.ref C) (.type "ValueError")=some true
noncomputable def j5(K:PySem.W.Frag)(Cs:List Addr):Bool:=Cs.zipIdx.all λp=>Cs.zipIdx.all (λq=>PySem.W.kitOne K (.ref p.1) (.ref q.1)==some (QY p.2 q.2))&&PySem.W.exmOne K (.ref p.1) (.ref (Cs.getD 0 0))==some true
theorem ClsOk.all{K:PySem.W.Frag}{h:Heap}{mg:Str->Option Value}{cn:List Str}{Cs:List Addr}(X:K.In h)(G:h.Ns mainGlobals mg)(hp:Paired (Y8 K) cn Cs)(hc:j5 K Cs=true)(hn:cn.Nodup)(h0:cn[0]?=some ("HealError":Str))(hv:("ValueError":Str)∉cn)(hl:cn.length<999):ClsOk K mg cn:=by
 have got:∀{c:Nat}{C:Addr},Cs[c]?=some C->∃x,cn[c]?=some x/\Y8 K x C:=λ{c C} e=>by
  have l:c<cn.length:=by rw[Paired.length hp];exact(List.getElem?_eq_some_iff.mp e).1
  obtain⟨D,e1,q⟩:=qE hp (wA l);rw[e]at e1;cases e1;exact⟨_,wA l,q⟩
 have mz:∀{c:Nat}{C:Addr},Cs[c]?=some C->(C,c)∈Cs.zipIdx:=λ{c C} e=>List.mk_mem_zipIdx_iff_getElem?.mpr e;have ck:∀{c:Nat}{C:Addr},Cs[c]?=some C->(∀(k:Nat) D,Cs[k]?=some D->PySem.W.kitOne K (.ref C) (.ref D)=some (QY c k))/\PySem.W.exmOne K (.ref C) (.ref (Cs.getD 0 0))=some true:=λ{c C} e=>by
  have:=wF.mp hc _ (mz e);rw[Bool.and_eq_true]at this;exact⟨λk D eD=>beq_iff_eq.mp (wF.mp this.1 _ (mz eD)),beq_iff_eq.mp this.2⟩
 refine ClsOk.of (Cs:=Cs) (λc x e=>?_) (λc C e=>?_) (λc k C D e1 e2=>(ck e1).1 k D e2) (λc C D e1 e2=>?_) hn h0 hv hl
 ·obtain⟨C,e1,q⟩:=qE hp e;exact⟨C,e1,PySem.W.mg_of X G q.a,q.a⟩
 ·obtain⟨x,_,q⟩:=got e;exact⟨q.b,q.j⟩
 ·have:=(ck e1).2;rw[wG,e2]at this;exact this
noncomputable def B3(K:PySem.W.Frag)(x:Str):Bool:=match PySem.W.nsIn K mainGlobals x with
 |some (some (.ref C))=>(PySem.W.clsIn K C).isSome&&(PySem.W.findIn K (.ref C) "__class__"==some (some (.builtin "object.__class__")))&&(PySem.W.mroIn K C (.type "object")==some true)&&(PySem.W.mroIn K C (.type "BaseException")==some true)&&(PySem.W.findIn K (.ref C) "__getattribute__"==some (some (.builtin "BaseException.__getattribute__")))&&(PySem.W.findIn K (.ref C) "__getattr__"==some none)&&PySem.W.excIn K C [.type "ValueError",.type "Exception",.type "BaseException",.type "object"] "ValueError.__new__"&&(PySem.W.kitOne K (.ref C) (.type "ValueError")==some true)
 |_=>false
noncomputable def Zt(K:PySem.W.Frag)(x:Str):Addr:=match PySem.W.nsIn K mainGlobals x with
 |some (some (.ref C))=>C
 |_=>0
noncomputable def S0(K:PySem.W.Frag)(cn:List Str):Bool:=cn.all (B3 K)&&j5 K (cn.map (Zt K))
theorem M8{K:PySem.W.Frag}{x:Str}(h:B3 K x=true):Y8 K x (Zt K x):=by
 unfold B3 at h;unfold Zt;split at h
 ·rename_i C e;simp only[Bool.and_eq_true,beq_iff_eq]at h;obtain⟨⟨⟨⟨⟨⟨⟨h1,h2⟩,h3⟩,h4⟩,h5⟩,h6⟩,h7⟩,h8⟩:=h;obtain⟨cd,h1⟩:=Option.isSome_iff_exists.mp h1;exact⟨e,⟨⟨cd,h1⟩,h2,h3,h4,h5,h6,h7⟩,h8⟩
 ·cases h
theorem ClsOk.rec_{K:PySem.W.Frag}{h:Heap}{mg:Str->Option Value}{cn:List Str}(X:K.In h)(G:h.Ns mainGlobals mg)(hc:S0 K cn=true)(hn:cn.Nodup)(h0:cn[0]?=some ("HealError":Str))(hv:("ValueError":Str)∉cn)(hl:cn.length<999):ClsOk K mg cn:=by
 unfold S0 at hc;rw[Bool.and_eq_true]at hc;refine ClsOk.all (Cs:=cn.map (Zt K)) X G ?_ hc.2 hn h0 hv hl;have go:∀l:List Str,l.all (B3 K)=true->Paired (Y8 K) l (l.map (Zt K)):=λl=>by
  induction l with
  |nil=>exact λ_=>.nil
  |cons a r ih=>
   intro h;rw[List.all_cons,Bool.and_eq_true]at h;exact .cons (M8 h.1) (ih h.2)
 exact go cn hc.1
abbrev qBU(K:PySem.W.Frag)(d:JW):Prop:=∃(f:Addr) (oc:Value) (od an:Option Addr) (sl:Array (Option Value)) (kV dc pm cd ct:Value),PySem.W.nsIn K mainGlobals d.x=some (some (.ref f))/\K.lookup f=some ⟨oc,od,.func (PySem.W.fnOf d.x d.x (zR d.st) (defBody d.st) (defScope d.st) .none kV dc pm an cd ct),sl⟩/\PySem.W.codeIn K cd d.x=true/\PySem.W.keepIn K (.ref f)=true
structure qAh(d:JW):Prop where
 sc:qu d.N d.ps (defScope d.st)
 bd:∀(kV doc pm:Value) (an:Option Addr) (cdv ct:Value) (us:List Value),us.length=d.ps.length->bindArgs (PySem.W.fnOf d.x d.x (zR d.st) (defBody d.st) (defScope d.st) .none kV doc pm an cdv ct) ⟨us,[]⟩=pure (d.ps.zip us)
theorem g6{K:PySem.W.Frag}{h:Heap}{mg:Str->Option Value}(X:K.In h)(G:h.Ns mainGlobals mg):∀(ds:List JW),(∀d∈ds,qBU K d)->(∀d∈ds,qAh d)->∃(fa:List Addr) (fd:List FuncData),∀(i:Nat) d,ds[i]?=some d->∃a f,fa[i]?=some a/\fd[i]?=some f/\Fun K d.x d.x d.st a f/\qu d.N d.ps (L2.defScope d.st)/\mg d.x=some (.ref a)/\Binds K f d.ps []
 | [],_,_=>⟨[],[],λi d h=>by simp at h⟩
 |d::ds,h,hk=>by
  obtain⟨fa,fd,k⟩:=g6 X G ds (λx hx=>h x (by simp[hx])) λx hx=>hk x (by simp[hx]);obtain⟨f,oc,od,an,sl,kV,dc,pm,cd,ct,h1,h2,h3,h4⟩:=h d (by simp);have hd:=hk d (by simp);refine⟨f::fa,PySem.W.fnOf d.x d.x (zR d.st) (defBody d.st) (defScope d.st) .none kV dc pm an cd ct::fd,λi e he=>?_⟩;cases i with
  |zero=>cases he;exact⟨_,_,rfl,rfl,j3 h2 h3 h4,hd.sc,PySem.W.mg_of X G h1,(j3 h2 h3 h4).binds hd.bd⟩
  |succ i=>exact k i e he
theorem qCr{K:PySem.W.Frag}{d:JW}{a:Addr}{f:FuncData}{x:Str}(F:Fun K d.x d.x d.st a f)(h:qAh d)(hp:d.ps=[x])(s:Shared)(v:Value):BindsTo s f ⟨[v],[]⟩ [(x,v)]:=by
 obtain⟨oc,od,kV,doc,pm,an,cdv,ct,osl,rfl,lk,hcd⟩:=F.ex;refine .of_eq ?_;rw[h.bd kV doc pm an cdv ct [v] (by rw[hp];rfl),hp];rfl
inductive T where
 |v (x:V)|cell (n:Nat)|fz (xs:List T)|lst (xs:List T)|tup (xs:List T)|ob (o:Ob)
noncomputable abbrev Mem:=List (List T)
noncomputable abbrev TS:=List (Option T)
inductive PR(α:Type)|ok(a:α)|exc(c:Nat)(M:Mem)|stuck
noncomputable def PR.bind{α β:Type}:PR α->(α->PR β)->PR β
 | .ok a,f=>f a
 | .exc c M,_=>.exc c M
 | .stuck,_=>.stuck
@[simp] theorem PR.bind_ok{α β:Type}(a:α)(f:α->PR β):(PR.ok a).bind f=f a:=Eq.trans rfl rfl
@[simp] theorem PR.bind_stuck{α β:Type}(f:α->PR β):(PR.stuck:PR α).bind f=.stuck:=Eq.trans rfl rfl
noncomputable def PR.nx{α:Type}:PR α->PR α
 | .ok a=>.ok a
 | .exc _ _=>.stuck
 | .stuck=>.stuck
@[simp] theorem PR.nx_ok{α:Type}(a:α):(PR.ok a).nx=.ok a:=Eq.trans rfl rfl
@[simp] theorem PR.nx_stuck{α:Type}:(PR.stuck:PR α).nx=.stuck:=Eq.trans rfl rfl
noncomputable def PR.ofO{α:Type}:Option α->PR α
 |some a=>.ok a
 |none=>.stuck
@[simp] theorem PR.ofO_some{α:Type}(a:α):PR.ofO (some a)=.ok a:=Eq.trans rfl rfl
mutual
noncomputable def T.lf:T->Bool
 | .v _=>true
 | .ob (.exn _)=>true
 | .tup ts=>T.lfs ts
 |_=>false
noncomputable def T.lfs:List T->Bool
 | []=>true
 |t::ts=>T.lf t&&T.lfs ts
end
mutual
noncomputable def T.und(n:Nat):T->Bool
 | .v _=>true
 | .ob _=>true
 | .cell k=>decide (k<n)
 | .fz ts=>T.unds n ts
 | .lst ts=>T.unds n ts
 | .tup ts=>T.unds n ts
noncomputable def T.unds(n:Nat):List T->Bool
 | []=>true
 |t::ts=>T.und n t&&T.unds n ts
end
mutual
noncomputable def T.beq:T->T->Bool
 | .v x,.v y=>decide (x=y)
 | .cell x,.cell y=>decide (x=y)
 | .fz x,.fz y=>T.beqs x y
 | .lst x,.lst y=>T.beqs x y
 | .tup x,.tup y=>T.beqs x y
 | .ob x,.ob y=>decide (x=y)
 |_,_=>false
noncomputable def T.beqs:List T->List T->Bool
 | [],[]=>true
 |x::xs,y::ys=>T.beq x y&&T.beqs xs ys
 |_,_=>false
end
noncomputable abbrev jh:=List (Nat×List T)
noncomputable def qd(d:jh)(M:Mem):Bool:=d.all λp=>match M[p.1]? with|some ts=>T.beqs ts p.2|none=>false
noncomputable def T.its(M:Mem):T->Option (List T)
 | .lst xs=>some xs | .tup xs=>some xs | .fz xs=>some xs | .cell n=>M[n]? | _=>none
noncomputable def T.lis(M:Mem):T->Option (List T)
 | .lst xs=>some xs | .fz xs=>some xs | .cell n=>M[n]? | _=>none
noncomputable def T.mu(M:Mem):T->Option (List T)
 | .lst xs=>some xs | .cell n=>M[n]? | _=>none
noncomputable def zX:List T->Option (List Int)
 | []=>some []
 | .v (.int i)::r=>(zX r).map (i::·)
 |_::_=>none
noncomputable def zW:List T->Option (List Bool)
 | []=>some []
 | .v (.bl i)::r=>(zW r).map (i::·)
 |_::_=>none
noncomputable def jE:List T->Option (List V)
 | []=>some []
 | .v x::r=>(jE r).map (x::·)
 |_::_=>none
noncomputable def qi(f:T->T->Option Bool):List T->List T->Option (List Bool)
 | [],[]=>some []
 |x::xs,y::ys=>match f x y,qi f xs ys with
  |some b,some bs=>some (b::bs)
  |_,_=>none
 |_,_=>none
noncomputable def T.isV:T->Option V | .v x=>some x|_=>none
noncomputable def eqT(M:Mem):Nat->T->T->Option Bool
 | 0,s,t=>match s.isV,t.isV with|some x,some y=>eqF x y|_,_=>none
 |n+1,s,t=>match s.isV,t.isV with
  |some x,some y=>eqF x y
  |some _,none=>if (t.its M).isSome then some false else none
  |none,some _=>if (s.its M).isSome then some false else none
  |none,none=>match s.lis M,t.lis M with
   |some xs,some ys=>if xs.length=ys.length then (qi (eqT M n) xs ys).map λbs=>bs.all id else some false
   |some _,none=>if (t.its M).isSome then some false else none
   |none,some _=>if (s.its M).isSome then some false else none
   |none,none=>match s.its M,t.its M with
    |some xs,some ys=>if xs.length=ys.length then (qi (eqT M n) xs ys).map λbs=>bs.all id else (qi (eqT M n) (xs.take ys.length) (ys.take xs.length)).map λ_=>false
    |_,_=>none
noncomputable def W9(xs:List T)(lo hi:Option Int):List T:=(xs.drop (HT.sIx xs.length 0 lo)).take (HT.sIx xs.length xs.length hi-HT.sIx xs.length 0 lo)
noncomputable abbrev TB:=T×Bool
noncomputable def iT(i:Int):TB:=(.v (.int i),true)
noncomputable def bT(b:Bool):TB:=(.v (.bl b),true)
noncomputable def lT(xs:List T):TB:=(.lst xs,T.lfs xs)
noncomputable def qAV(x:T)(xs:List T)(lo hi:Option Int):Option TB:=match x with
 | .tup _=>if HT.sIx xs.length 0 lo=0/\HT.sIx xs.length xs.length hi=xs.length then none else some (.tup (W9 xs lo hi),T.lfs (W9 xs lo hi))
 |_=>some (lT (W9 xs lo hi))
noncomputable def zJ(M:Mem)(op:BOp)(x y:T):Option TB:=match x.isV,y.isV with
 |some (.int i),some (.int j)=>match op with
  | .add=>some (iT (i+j))
  | .sub=>some (iT (i-j))
  | .mul=>if ji i||ji j||(mid i&&mid j) then some (iT (i*j)) else none
  | .fdiv=>if 0<j/\(j<1073741824\/mid j=true) then some (iT (i / j)) else if j<0/\mid j=true then some (iT (i.fdiv j)) else none
  | .mod=>if 0<j then some (iT (i % j)) else if j<0 then some (iT (i.fmod j)) else none
  | .pow=>if 0<=j/\j<=1000/\i.natAbs<18446744073709551616 then some (iT (i ^ j.toNat)) else none
  | .band=>some (iT (PySem.Builtin.bitAnd i j))
  | .shl=>if 0<=j/\j<=1000/\i.natAbs<18446744073709551616 then some (iT (i*2 ^ j.toNat)) else none
 |none,some (.int k)=>match op with
  | .mul=>(x.mu M).bind λxs=>if 0<=k/\xs.length*k.toNat<=lim/\k<1000000 then some (lT (List.replicate k.toNat xs).flatten) else none
  |_=>none
 |none,none=>match op with
  | .add=>(match x,y with
   | .tup xs,.tup ys=>if xs≠[]/\xs.length+ys.length<=lim then some (.tup (xs++ys),T.lfs (xs++ys)) else none
   |x,y=>(x.mu M).bind λxs=>(y.mu M).bind λys=>if xs.length+ys.length<=lim then some (lT (xs++ys)) else none)
  |_=>none
 |_,_=>none
noncomputable def T.dct:T->Option (List (Int×V))
 | .ob (.dct kvs)=>some kvs
 |_=>none
noncomputable def inT(M:Mem)(x y:T):Option Bool:=match y.dct with
 |some kvs=>(match x with | .v (.int i)=>some (qAi kvs i)|_=>none)
 |none=>x.isV.bind λa=>(y.its M).bind λts=>(jE ts).map λxs=>xs.any λz=>L2.eqV z a
noncomputable def qe(M:Mem)(op:COp)(x y:T):Option Bool:=match op with
 | .eq=>eqT M 4 x y
 | .ne=>(eqT M 4 x y).map (!·)
 | .inn=>inT M x y
 | .notin=>(inT M x y).map (!·)
 | .is=>match y.isV with|some .non=>some (match x.isV with|some .non=>true|_=>false)|some (.bl d)=>(match x.isV with|some (.bl c)=>some (c==d)|_=>none)|_=>none
 | .isnot=>match y.isV with|some .non=>some (match x.isV with|some .non=>false|_=>true)|some (.bl d)=>(match x.isV with|some (.bl c)=>some (!(c==d))|_=>none)|_=>none
 | .lt=>match x.isV,y.isV with|some (.int i),some (.int j)=>some (decide (i<j))|_,_=>none
 | .le=>match x.isV,y.isV with|some (.int i),some (.int j)=>some (decide (i<=j))|_,_=>none
 | .gt=>match x.isV,y.isV with|some (.int i),some (.int j)=>some (decide (j<i))|_,_=>none
 | .ge=>match x.isV,y.isV with|some (.int i),some (.int j)=>some (decide (j<=i))|_,_=>none
noncomputable def u7(as:List T)(f:T->Option TB):Option TB:=match as with
 | [a]=>f a
 |_=>none
theorem jN{as:List T}{f:T->Option TB}{r:TB}(e:u7 as f=some r):∃a,as=[a]/\f a=some r:=by
 unfold u7 at e;split at e
 ·exact⟨_,rfl,e⟩
 ·cases e
noncomputable def twoT(as:List T)(f:Int->Int->Option TB):Option TB:=match as with
 | [a,b]=>(match a with
  | .v (.int i)=>(match b with | .v (.int j)=>f i j|_=>none)
  |_=>none)
 |_=>none
theorem twoT_inv{as:List T}{f:Int->Int->Option TB}{r:TB}(e:twoT as f=some r):∃i j,as=[.v (.int i),.v (.int j)]/\f i j=some r:=by
 unfold twoT at e;split at e
 ·split at e
  ·split at e
   ·exact⟨_,_,rfl,e⟩
   ·cases e
  ·cases e
 ·cases e
noncomputable def zr(M:Mem):BF->List T->Option TB
 | .len,as=>u7 as λa=>(a.its M).map λxs=>iT xs.length
 | .all,as=>u7 as λa=>(a.lis M).bind λxs=>(zW xs).map λbs=>bT (bs.all id)
 | .max,as=>twoT as λi j=>some (iT (if j>i then j else i))
 | .min,as=>twoT as λi j=>some (iT (if j<i then j else i))
 | .list,as=>u7 as λa=>(a.its M).map lT
 | .int,as=>u7 as λa=>(match a with | .v (.int i)=>some (iT i) | .v (.bl b)=>some (iT (if b then 1 else 0))|_=>none)
 | .bits,as=>u7 as λa=>(match a with | .v (.int i)=>some (iT ((PySem.Builtin.Int.intBits i:Nat):Int))|_=>none)
noncomputable def T.isC(n:Nat):T->Bool | .cell k=>decide (k=n)|_=>false
noncomputable def JC:Mt->Nat->List T->Mem->Option (TB×Mem)
 | .pop,n,[],M=>(M[n]?).bind λxs=>(xs[xs.length-1]?).map λy=>((y,y.lf),M.set n xs.dropLast)
 | .popAt,n,[.v (.int i)],M=>(M[n]?).bind λxs=>if xs.length<=lim then (ixN xs.length i).bind λk=>(xs[k]?).map λy=>((y,y.lf),M.set n (xs.eraseIdx k)) else none
 | .rev,n,[],M=>(M[n]?).map λxs=>((.v .non,true),M.set n xs.reverse)
 | .clr,n,[],M=>(M[n]?).map λ_=>((.v .non,true),M.set n [])
 | .ext,n,[t],M=>(M[n]?).bind λxs=>(t.mu M).bind λys=>if t.isC n=false/\xs.length+ys.length<=lim then some ((.v .non,true),M.set n (xs++ys)) else none
 | .ins,n,[.v (.int i),t],M=>(M[n]?).bind λxs=>if 0<=i/\i<=xs.length/\xs.length<lim then some ((.v .non,true),M.set n (xs.take i.toNat++t::xs.drop i.toNat)) else none
 |_,_,_,_=>none
noncomputable def zd(M:Mem):T->Option String
 | .v .non=>some "NoneType"
 | .v (.bl _)=>some "bool"
 | .v (.int _)=>some "int"
 | .v (.str _)=>some "str"
 | .v _=>none
 | .tup _=>some "tuple"
 | .cell n=>(M[n]?).map λ_=>"list"
 | .ob (.dct _)=>some "dict"
 | .ob _=>none
 |_=>some "list"
noncomputable def T.tx:T->Option PySem.Str
 | .v (.str y)=>some y
 |_=>none
noncomputable def Qe(M:Mem)(x y:T):Option TB:=match y with
 | .v (.int i)=>(x.its M).bind λxs=>(ixN xs.length i).bind λj=>(xs[j]?).map λt=>(t,t.lf)
 |_=>none
noncomputable def qBw:List Nat->List T->TS->Option TS
 | [],[],σ=>some σ
 |i::is,x::xs,σ=>qBw is xs (σ.set i (some x))
 |_,_,_=>none
noncomputable def qt:Tg->T->TS->Option TS
 | .name i,t,σ=>some (σ.set i (some t))
 | .tup is,.tup ts,σ=>qBw is ts σ
 | .tup _,_,_=>none
noncomputable def jc(src:List (Option Nat))(σ:TS):TS:=src.map λo=>match o with|none=>none|some j=>(σ[j]?).join
noncomputable def zz(lo:Int)(n:Nat):List T:=(List.range n).map λ(i:Nat)=>.v (.int (lo+(i:Int)))
noncomputable def ZR(M:Mem):T->Option (List T×jh)
 | .lst ts=>some (ts,[])
 | .fz ts=>some (ts,[])
 | .tup ts=>some (ts,[])
 | .cell n=>(M[n]?).map λts=>(ts,[(n,ts)])
 |_=>none
noncomputable def D9(M:Mem):T->Option (List T×jh)
 | .lst ts=>some (ts,[])
 | .fz ts=>some (ts,[])
 | .cell n=>(M[n]?).map λts=>(ts,[(n,ts)])
 |_=>none
noncomputable def jR:Nat->List T->List T
 |_,[]=>[]
 |i,t::ts=>.tup [.v (.int (i:Int)),t]::jR (i+1) ts
noncomputable def qR(d:jh)(g:Tg)(c:TS->Mem->PR (Bool×Mem))(e:TS->Mem->PR (TB×Mem)):List T->List T->Bool->TS->Mem->PR (TB×Mem)
 | [],ys,f,_,M=>.ok ((.lst ys,f),M)
 |x::r,ys,f,σ,M=>match qt g x σ with
  |some σ1=>(c σ1 M).bind λ(b,M2)=>
   if b then (e σ1 M2).bind λ(y,M3)=>if ys.length<lim/\qd d M3=true then qR d g c e r (ys++[y.1]) (f&&y.2) σ1 M3 else .stuck
   else if qd d M2=true then qR d g c e r ys f σ1 M2 else .stuck
  |none=>.stuck
noncomputable def pB(r:PR (TB×Mem)):PR (Bool×Mem):=r.bind λ(x,M)=>match x.1 with | .v (.bl b)=>.ok (b,M)|_=>.stuck
section
variable (gl:List T)(P:Nat->List T->Mem->PR (TB×Mem))
mutual
noncomputable def pe:E->TS->Mem->PR (TB×Mem)
 | .var i=>λσ M=>match σ[i]? with|some (some t)=>.ok ((t,t.lf),M)|_=>.stuck
 | .cst v=>λ_ M=>if flat v then .ok ((.v v,true),M) else .stuck
 | .glob g=>λ_ M=>match gl[g]? with|some t=>.ok ((t,t.lf),M)|none=>.stuck
 | .bin op a b=>λσ M=>(pe a σ M).bind λ(x,M1)=>(pe b σ M1).bind λ(y,M2)=>(PR.ofO (zJ M2 op x.1 y.1)).bind λr=>.ok (r,M2)
 | .neg a=>λσ M=>(pe a σ M).bind λ(x,M1)=>match x.1 with | .v (.int i)=>.ok (iT (-i),M1)|_=>.stuck
 | .cmp op a b=>λσ M=>(pe a σ M).bind λ(x,M1)=>(pe b σ M1).bind λ(y,M2)=>(PR.ofO (qe M2 op x.1 y.1)).bind λr=>.ok (bT r,M2)
 | .cmp2 o1 o2 a b c=>λσ M=>(pe a σ M).bind λ(x,M1)=>(pe b σ M1).bind λ(y,M2)=>(PR.ofO (qe M2 o1 x.1 y.1)).bind λr=>
  if r then (pe c σ M2).bind λ(z,M3)=>(PR.ofO (qe M3 o2 y.1 z.1)).bind λr=>.ok (bT r,M3) else .ok (bT false,M2)
 | .and a b=>λσ M=>(pB (pe a σ M)).bind λ(x,M1)=>if x then pe b σ M1 else .ok (bT false,M1)
 | .or a b=>λσ M=>(pB (pe a σ M)).bind λ(x,M1)=>if x then .ok (bT true,M1) else pe b σ M1
 | .not a=>λσ M=>(pB (pe a σ M)).bind λ(x,M1)=>.ok (bT (!x),M1)
 | .ite c a b=>λσ M=>(pB (pe c σ M)).bind λ(x,M1)=>if x then pe a σ M1 else pe b σ M1
 | .call f as=>λσ M=>(pes as σ M).bind λ(xs,M1)=>(P f (xs.map (·.1)) M1).nx
 | .blt f as=>λσ M=>(pes as σ M).bind λ(xs,M1)=>(PR.ofO (zr M1 f (xs.map (·.1)))).bind λr=>.ok (r,M1)
 | .isi a ts=>λσ M=>(pe a σ M).bind λ(x,M1)=>(PR.ofO (zd M1 x.1)).bind λt=>.ok (bT (ts.any (ze t)),M1)
 | .idx a b=>λσ M=>(pe a σ M).bind λ(x,M1)=>(pe b σ M1).bind λ(y,M2)=>(PR.ofO (Qe M2 x.1 y.1)).bind λr=>.ok (r,M2)
 | .sl a lo hi=>λσ M=>(pe a σ M).bind λ(x,M1)=>(pes lo σ M1).bind λ(l,M2)=>(pes hi σ M2).bind λ(u,M3)=>
  (PR.ofO (x.1.its M3)).bind λxs=>(PR.ofO (zX (l.map (·.1)))).bind λl=>(PR.ofO (zX (u.map (·.1)))).bind λu=>(PR.ofO (qAV x.1 xs l.head? u.head?)).bind λr=>.ok (r,M3)
 | .lst as=>λσ M=>(pes as σ M).bind λ(xs,M1)=>if xs.length<=lim then .ok ((.lst (xs.map (·.1)),xs.all (·.2)),M1) else .stuck
 | .tup as=>λσ M=>(pes as σ M).bind λ(xs,M1)=>if xs.length<=lim then .ok ((.tup (xs.map (·.1)),xs.all (·.2)),M1) else .stuck
 | .comp it src g c e=>λσ M=>(pei it σ M).bind λ(s,M1)=>qR s.2 g (pec c) (pe e) s.1 [] true (jc src σ) M1
 | .app a b=>λσ M=>(pe a σ M).bind λ(x,M1)=>match x.1 with
  | .cell n=>(pe b σ M1).bind λ(y,M2)=>match M2[n]? with
   |some xs=>if xs.length<lim then .ok ((.v .non,true),M2.set n (xs++[y.1])) else .stuck
   |none=>.stuck
  |_=>.stuck
 | .dnew=>λ_ M=>.ok ((.ob (.dct []),true),M)
 | .meth m a as=>λσ M=>(pe a σ M).bind λ(x,M1)=>match x.1 with
  | .cell n=>(pes as σ M1).bind λ(ys,M2)=>PR.ofO (JC m n (ys.map (·.1)) M2)
  |_=>.stuck
noncomputable def pes:Es->TS->Mem->PR (List TB×Mem)
 | .nil=>λ_ M=>.ok ([],M)
 | .cons a as=>λσ M=>(pe a σ M).bind λ(x,M1)=>(pes as σ M1).bind λ(xs,M2)=>.ok (x::xs,M2)
noncomputable def pec:Es->TS->Mem->PR (Bool×Mem)
 | .nil=>λ_ M=>.ok (true,M)
 | .cons a _=>λσ M=>pB (pe a σ M)
noncomputable def pei:Itr->TS->Mem->PR ((List T×jh)×Mem)
 | .list a=>λσ M=>(pe a σ M).bind λ(x,M1)=>(PR.ofO (ZR M1 x.1)).bind λs=>.ok (s,M1)
 | .rng1 a=>λσ M=>(pe a σ M).bind λ(x,M1)=>match x.1 with | .v (.int j)=>if -1000000<=j/\j<=1000000 then .ok ((zz 0 j.toNat,[]),M1) else .stuck|_=>.stuck
 | .zip a b=>λσ M=>(pe a σ M).bind λ(x,M1)=>(pe b σ M1).bind λ(y,M2)=>(PR.ofO (D9 M2 x.1)).bind λs=>(PR.ofO (D9 M2 y.1)).bind λt=>
  .ok ((List.zipWith (λa b=>T.tup [a,b]) s.1 t.1,s.2++t.2),M2)
 | .enum a=>λσ M=>(pe a σ M).bind λ(x,M1)=>(PR.ofO (D9 M1 x.1)).bind λs=>.ok ((jR 0 s.1,s.2),M1)
end
inductive PO|nx(σ:TS)|rt(t:TB)|bk(σ:TS)|ct(σ:TS)
noncomputable abbrev RSt:=PR (PO×Mem)
noncomputable def qq(d:jh)(g:Tg)(b:TS->Mem->RSt):List T->TS->Mem->RSt
 | [],σ,M=>.ok (.nx σ,M)
 |x::r,σ,M=>match qt g x σ with
  |some σ1=>(b σ1 M).bind λ(o,M2)=>match o with
   | .nx σ2=>if qd d M2=true then qq d g b r σ2 M2 else .stuck
   | .ct σ2=>if qd d M2=true then qq d g b r σ2 M2 else .stuck
   | .bk σ2=>.ok (.nx σ2,M2)
   | .rt t=>.ok (.rt t,M2)
  |none=>.stuck
mutual
noncomputable def thaw(n:Nat):T->T×Mem
 | .lst ts=>let r:=jY n ts;(.cell (n+r.2.length),r.2++[r.1])
 | .tup ts=>let r:=jY n ts;(.tup r.1,r.2)
 |t=>(t,[])
noncomputable def jY(n:Nat):List T->List T×Mem
 | []=>([],[])
 |t::ts=>let r:=thaw n t;let q:=jY (n+r.2.length) ts;(r.1::q.1,r.2++q.2)
end
noncomputable def qBh:E->Bool
 | .bin .add _ _=>true
 | .lst _=>true
 |_=>false
variable (C:List Nat)
mutual
noncomputable def px:S->TS->Mem->RSt
 | .asg g e=>λσ M=>(pe gl P e σ M).bind λ(x,M1)=>match g with
  | .name i=>if C.contains i&&x.2 then .ok (.nx (σ.set i (some (thaw M1.length x.1).1)),M1++(thaw M1.length x.1).2) else if C.contains (i+1000)&&qBh e then (match x.1 with | .lst ts=>.ok (.nx (σ.set i (some (.cell M1.length))),M1++[ts])|_=>.stuck) else .ok (.nx (σ.set i (some x.1)),M1)
  |g=>match qt g x.1 σ with|some σ1=>.ok (.nx σ1,M1)|none=>.stuck
 | .put o i v=>λσ M=>(pe gl P v σ M).bind λ(x,M1)=>(pe gl P o σ M1).bind λ(p,M2)=>(pe gl P i σ M2).bind λ(k,M3)=>match p.1,k.1 with
  | .cell n,.v (.int k)=>match M3[n]? with
   |some xs=>match ixN xs.length k with|some j=>.ok (.nx σ,M3.set n (xs.set j x.1))|none=>.stuck
   |none=>.stuck
  |_,_=>.stuck
 | .expr e=>λσ M=>(pe gl P e σ M).bind λ(_,M1)=>.ok (.nx σ,M1)
 | .ret e=>λσ M=>(pe gl P e σ M).bind λ(x,M1)=>.ok (.rt x,M1)
 | .ifs c t u=>λσ M=>(pB (pe gl P c σ M)).bind λ(x,M1)=>if x then pxs t σ M1 else pxs u σ M1
 | .for_ g it b=>λσ M=>(pei gl P it σ M).bind λ(s,M1)=>qq s.2 g (pxs b) s.1 σ M1
 | .stop=>λ_ _=>.stuck
 | .xexpr f as=>λσ M=>(pes gl P as σ M).bind λ(xs,M1)=>(P f (xs.map (·.1)) M1).bind λ(_,M2)=>.ok (.nx σ,M2)
 | .raise c=>λ_ M=>.exc c M
 | .tryK b e i m ks=>λσ M=>match px b σ M with
  | .exc c M1=>if c<m then .ok (.nx ((σ.set i (some (.lst (ks.map λk=>.v (.bl (QY c k)))))).set e none),M1) else .stuck
  |r=>r
 | .xasg i f as=>λσ M=>(pes gl P as σ M).bind λ(xs,M1)=>(P f (xs.map (·.1)) M1).bind λ(y,M2)=>if C.contains i&&y.2 then .ok (.nx (σ.set i (some (thaw M2.length y.1).1)),M2++(thaw M2.length y.1).2) else .ok (.nx (σ.set i (some y.1)),M2)
 | .xret f as=>λσ M=>(pes gl P as σ M).bind λ(xs,M1)=>(P f (xs.map (·.1)) M1).bind λ(y,M2)=>.ok (.rt y,M2)
 | .xrn o f as=>λσ M=>(pes gl P as σ M).bind λ(xs,M1)=>(P f (xs.map (·.1)) M1).bind λ(y,M2)=>(PR.ofO (qe M2 o y.1 (.v .non))).bind λr=>.ok (.rt (bT r),M2)
noncomputable def pxs:Ss->TS->Mem->RSt
 | .nil=>λσ M=>.ok (.nx σ,M)
 | .cons s r=>λσ M=>(px s σ M).bind λ(o,M1)=>match o with
  | .nx σ1=>pxs r σ1 M1
  |o=>.ok (o,M1)
end
end
noncomputable def qL(M:Mem)(n0:Nat):Nat->T->Option T
 | 0,t=>if t.und n0 then some t else none
 |d+1,t=>if t.und n0 then some t else match t with
  | .lst ts=>(ts.mapM (qL M n0 d)).map .lst
  | .tup ts=>(ts.mapM (qL M n0 d)).map .tup
  | .cell n=>(M[n]?).bind λts=>(ts.mapM (qL M n0 d)).map .lst
  |_=>none
noncomputable def zq(M:Mem)(n0:Nat):Nat->T->Option (List Nat)
 | 0,t=>if t.lf then some [] else none
 |d+1,t=>if t.lf then some [] else match t with
  | .tup ts=>(ts.mapM (zq M n0 d)).map List.flatten
  | .cell n=>if n0<=n then (M[n]?).bind λts=>(ts.mapM (zq M n0 d)).map λl=>l.flatten++[n] else none
  |_=>none
noncomputable def frR(M:Mem)(n0:Nat)(t:T):Bool:=match zq M n0 6 t with|some l=>decide l.Nodup|none=>false
noncomputable def zG(n0:Nat)(x:TB)(M:Mem):PR (TB×Mem):=
 if M.length=n0 then .ok (x,M) else if (M.take n0).all (T.unds n0) then (PR.ofO (qL M n0 6 x.1)).bind λt=>.ok ((t,x.2||frR M n0 x.1),M.take n0) else .stuck
noncomputable def ZJ(n0:Nat):RSt->PR (TB×Mem)
 | .ok (.nx _,M1)=>zG n0 (.v .non,true) M1
 | .ok (.rt t,M1)=>zG n0 t M1
 | .ok (_,_)=>.stuck
 | .exc c M1=>if M1.length=n0 then .exc c M1 else if (M1.take n0).all (T.unds n0) then .exc c (M1.take n0) else .stuck
 | .stuck=>.stuck
noncomputable def Pk(gl:List T)(tb:List Fn)(Cs:List (List Nat)):Nat->Nat->List T->Mem->PR (TB×Mem)
 | 0,_,_,_=>.stuck
 |k+1,f,vs,M=>match tb[f]? with
  |some d=>if vs.length=d.npar/\d.npar<=d.nslot then ZJ M.length (pxs gl (Pk gl tb Cs k) (Cs.getD f []) d.body (vs.map some++List.replicate (d.nslot-d.npar) none) M)
   else .stuck
  |none=>.stuck
def zu{α β:Type}(R:α->β->Prop):List α->List β->Prop
 | [],vs=>vs=[]
 |t::ts,vs=>∃v vs',vs=v::vs'/\R t v/\zu R ts vs'
section
variable{α β:Type}{R:α->β->Prop}
theorem qA:∀{xs:List α}{ys:List β},zu R xs ys->xs.length=ys.length
 | [],_,h=>by cases h;rfl
 |x::xs,_,⟨v,vs,rfl,_,h⟩=>by simp[qA h]
theorem qm:∀{xs:List α}{ys:List β}{i:Nat}{x:α},zu R xs ys->xs[i]?=some x->∃y,ys[i]?=some y/\R x y
 | [],_,i,x,h,e=>by simp at e
 |x::xs,_,0,x',⟨v,vs,rfl,r,h⟩,e=>⟨v,rfl,by simp at e;subst e;exact r⟩
 |x::xs,_,i+1,x',⟨v,vs,rfl,r,h⟩,e=>by
  obtain⟨y,e1,r1⟩:=qm (i:=i) h (by simpa using e);exact⟨y,by simpa using e1,r1⟩
theorem ql:∀{xs:List α}{ys:List β}{xs':List α}{ys':List β},zu R xs ys->zu R xs' ys'->zu R (xs++xs') (ys++ys')
 | [],_,_,_,h,k=>by cases h;exact k
 |x::xs,_,_,_,⟨v,vs,rfl,r,h⟩,k=>⟨v,vs++_,rfl,r,ql h k⟩
theorem zN:∀(n:Nat){xs:List α}{ys:List β},zu R xs ys->zu R (xs.take n) (ys.take n)
 | 0,_,_,_=>by simp[zu]
 |n+1,[],_,h=>by cases h;simp[zu]
 |n+1,x::xs,_,⟨v,vs,rfl,r,h⟩=>⟨v,vs.take n,rfl,r,zN n h⟩
theorem jG:∀(n:Nat){xs:List α}{ys:List β},zu R xs ys->zu R (xs.drop n) (ys.drop n)
 | 0,_,_,h=>h
 |n+1,[],_,h=>by cases h;simp[zu]
 |n+1,x::xs,_,⟨v,vs,rfl,r,h⟩=>jG n h
theorem zD:∀{xs:List α}{ys:List β}(j:Nat){x:α}{y:β},zu R xs ys->R x y->zu R (xs.set j x) (ys.set j y)
 | [],_,j,_,_,h,r=>by cases h;simp[zu]
 |x::xs,_,0,_,_,⟨v,vs,rfl,r0,h⟩,r=>⟨_,vs,rfl,r,h⟩
 |x::xs,_,j+1,_,_,⟨v,vs,rfl,r0,h⟩,r=>⟨v,vs.set j _,rfl,r0,zD j h r⟩
theorem X2(n:Nat){xs:List α}{ys:List β}(h:zu R xs ys):zu R (List.replicate n xs).flatten (List.replicate n ys).flatten:=by
 induction n with
 |zero=>simp[zu]
 |succ n ih=>simp only[List.replicate_succ,List.flatten_cons];exact ql h ih
theorem Zr{S:α->β->Prop}(f:∀x y,R x y->S x y):∀{xs:List α}{ys:List β},zu R xs ys->zu S xs ys
 | [],_,h=>h
 |x::xs,_,⟨v,vs,rfl,r,h⟩=>⟨v,vs,rfl,f _ _ r,Zr f h⟩
end
mutual
def Rep(A X:List Nat)(h:AH):T->V->Prop
 | .v x,w=>w=x/\flat x=true
 | .cell n,w=>∃a:Nat,A[n]?=some a/\w=.ref a
 | .fz ts,w=>∃a vs,w=.ref a/\a∉X/\h[a]?=some (.lst true vs)/\qN A X h ts vs
 | .lst ts,w=>∃a vs,w=.ref a/\a∉X/\h[a]?=some (.lst false vs)/\qN A X h ts vs
 | .tup ts,w=>∃a vs,w=.ref a/\a∉X/\h[a]?=some (.tup vs)/\qN A X h ts vs
 | .ob o,w=>∃a,w=.ref a/\a∉X/\h[a]?=some (.ob o)
def qN(A X:List Nat)(h:AH):List T->List V->Prop
 | [],vs=>vs=[]
 |t::ts,vs=>∃v vs',vs=v::vs'/\Rep A X h t v/\qN A X h ts vs'
end
theorem reps_iff{A X:List Nat}{h:AH}:∀{ts:List T}{vs:List V},qN A X h ts vs↔zu (Rep A X h) ts vs
 | [],vs=>by unfold qN zu;rfl
 |t::ts,vs=>by
  unfold qN zu;constructor
  ·rintro⟨v,vs',e,r,k⟩;exact⟨v,vs',e,r,reps_iff.mp k⟩
  ·rintro⟨v,vs',e,r,k⟩;exact⟨v,vs',e,r,reps_iff.mpr k⟩
mutual
def FP(X:List Nat)(h:AH):T->V->List Nat->Prop
 | .v x,w,fp=>(w=x/\flat x=true)/\fp=[]
 | .lst ts,w,fp=>∃a vs f,w=.ref a/\a∉X/\h[a]?=some (.lst false vs)/\FPs X h ts vs f/\fp=f++[a]
 | .tup ts,w,fp=>∃a vs,w=.ref a/\a∉X/\h[a]?=some (.tup vs)/\FPs X h ts vs fp
 | .ob o,w,fp=>(∃a,w=.ref a/\a∉X/\h[a]?=some (.ob o))/\fp=[]
 | .fz _,_,_=>False
 | .cell _,_,_=>False
def FPs(X:List Nat)(h:AH):List T->List V->List Nat->Prop
 | [],vs,fp=>vs=[]/\fp=[]
 |t::ts,vs,fp=>∃v vs' f1 f2,vs=v::vs'/\FP X h t v f1/\FPs X h ts vs' f2/\fp=f1++f2
end
mutual
theorem zL{A X A' X':List Nat}{h h':AH}(hc:∀(n:Nat) a,A[n]?=some a->A'[n]?=some a)(hn:∀a o,a∉X->h[a]?=some o->a∉X'/\h'[a]?=some o):∀(t:T){w:V},Rep A X h t w->Rep A' X' h' t w
 | .v x,w,r=>by unfold Rep at r ⊢;exact r
 | .cell n,w,r=>by unfold Rep at r ⊢;obtain⟨a,e,q⟩:=r;exact⟨a,hc _ _ e,q⟩
 | .fz ts,w,r=>by unfold Rep at r ⊢;obtain⟨a,vs,e,q1,q2,q3⟩:=r;exact⟨a,vs,e,(hn _ _ q1 q2).1,(hn _ _ q1 q2).2,qO hc hn ts q3⟩
 | .lst ts,w,r=>by unfold Rep at r ⊢;obtain⟨a,vs,e,q1,q2,q3⟩:=r;exact⟨a,vs,e,(hn _ _ q1 q2).1,(hn _ _ q1 q2).2,qO hc hn ts q3⟩
 | .tup ts,w,r=>by unfold Rep at r ⊢;obtain⟨a,vs,e,q1,q2,q3⟩:=r;exact⟨a,vs,e,(hn _ _ q1 q2).1,(hn _ _ q1 q2).2,qO hc hn ts q3⟩
 | .ob o,w,r=>by unfold Rep at r ⊢;obtain⟨a,e,q1,q2⟩:=r;exact⟨a,e,(hn _ _ q1 q2).1,(hn _ _ q1 q2).2⟩
theorem qO{A X A' X':List Nat}{h h':AH}(hc:∀(n:Nat) a,A[n]?=some a->A'[n]?=some a)(hn:∀a o,a∉X->h[a]?=some o->a∉X'/\h'[a]?=some o):∀(ts:List T){ws:List V},qN A X h ts ws->qN A' X' h' ts ws
 | [],w,r=>by unfold qN at r ⊢;exact r
 |t::ts,w,r=>by unfold qN at r ⊢;obtain⟨v,vs,e,q1,q2⟩:=r;exact⟨v,vs,e,zL hc hn t q1,qO hc hn ts q2⟩
end
mutual
theorem Qg{X X':List Nat}{h h':AH}(hn:∀a o,a∉X->h[a]?=some o->a∉X'/\h'[a]?=some o):∀(t:T){w:V}{fp:List Nat},FP X h t w fp->FP X' h' t w fp
 | .v x,w,_,r=>by unfold FP at r ⊢;exact r
 | .cell n,w,_,r=>by unfold FP at r;exact r.elim
 | .fz ts,w,_,r=>by unfold FP at r;exact r.elim
 | .lst ts,w,_,r=>by unfold FP at r ⊢;obtain⟨a,vs,f,e,q1,q2,q3,q4⟩:=r;exact⟨a,vs,f,e,(hn _ _ q1 q2).1,(hn _ _ q1 q2).2,zV hn ts q3,q4⟩
 | .tup ts,w,_,r=>by unfold FP at r ⊢;obtain⟨a,vs,e,q1,q2,q3⟩:=r;exact⟨a,vs,e,(hn _ _ q1 q2).1,(hn _ _ q1 q2).2,zV hn ts q3⟩
 | .ob o,w,_,r=>by unfold FP at r ⊢;obtain⟨⟨a,e,q1,q2⟩,q3⟩:=r;exact⟨⟨a,e,(hn _ _ q1 q2).1,(hn _ _ q1 q2).2⟩,q3⟩
theorem zV{X X':List Nat}{h h':AH}(hn:∀a o,a∉X->h[a]?=some o->a∉X'/\h'[a]?=some o):∀(ts:List T){ws:List V}{fp:List Nat},FPs X h ts ws fp->FPs X' h' ts ws fp
 | [],w,_,r=>by unfold FPs at r ⊢;exact r
 |t::ts,w,_,r=>by unfold FPs at r ⊢;obtain⟨v,vs,f1,f2,e,q1,q2,q3⟩:=r;exact⟨v,vs,f1,f2,e,Qg hn t q1,zV hn ts q2,q3⟩
end
mutual
theorem qCC{A X:List Nat}{h:AH}:∀(t:T){w:V}{fp:List Nat},FP X h t w fp->Rep A X h t w
 | .v x,w,_,r=>by unfold FP at r;unfold Rep;exact r.1
 | .cell n,w,_,r=>by unfold FP at r;exact r.elim
 | .fz ts,w,_,r=>by unfold FP at r;exact r.elim
 | .lst ts,w,_,r=>by unfold FP at r;unfold Rep;obtain⟨a,vs,f,e,q1,q2,q3,q4⟩:=r;exact⟨a,vs,e,q1,q2,JK ts q3⟩
 | .tup ts,w,_,r=>by unfold FP at r;unfold Rep;obtain⟨a,vs,e,q1,q2,q3⟩:=r;exact⟨a,vs,e,q1,q2,JK ts q3⟩
 | .ob o,w,_,r=>by unfold FP at r;unfold Rep;exact r.1
theorem JK{A X:List Nat}{h:AH}:∀(ts:List T){ws:List V}{fp:List Nat},FPs X h ts ws fp->qN A X h ts ws
 | [],w,_,r=>by unfold FPs at r;unfold qN;exact r.1
 |t::ts,w,_,r=>by unfold FPs at r;unfold qN;obtain⟨v,vs,f1,f2,e,q1,q2,q3⟩:=r;exact⟨v,vs,e,qCC t q1,JK ts q2⟩
end
mutual
theorem i9{X:List Nat}{h:AH}(n:Nat):∀(t:T){w:V}{fp:List Nat},FP X h t w fp->t.und n=true
 | .v x,w,_,r=>rfl
 | .cell n,w,_,r=>by unfold FP at r;exact r.elim
 | .fz ts,w,_,r=>by unfold FP at r;exact r.elim
 | .lst ts,w,_,r=>by unfold FP at r;obtain⟨a,vs,f,e,q1,q2,q3,q4⟩:=r;exact JT n ts q3
 | .tup ts,w,_,r=>by unfold FP at r;obtain⟨a,vs,e,q1,q2,q3⟩:=r;exact JT n ts q3
 | .ob o,w,_,r=>rfl
theorem JT{X:List Nat}{h:AH}(n:Nat):∀(ts:List T){ws:List V}{fp:List Nat},FPs X h ts ws fp->T.unds n ts=true
 | [],w,_,r=>rfl
 |t::ts,w,_,r=>by unfold FPs at r;obtain⟨v,vs,f1,f2,e,q1,q2,q3⟩:=r;unfold T.unds;rw[i9 n t q1,JT n ts q2];rfl
end
mutual
theorem C9{X:List Nat}{h:AH}:∀(t:T){w:V}{fp:List Nat},FP X h t w fp->∀a∈fp,a∉X/\∃vs,h[a]?=some (.lst false vs)
 | .v x,w,_,r=>by unfold FP at r;obtain⟨_,rfl⟩:=r;intro a ha;simp at ha
 | .cell n,w,_,r=>by unfold FP at r;exact r.elim
 | .fz ts,w,_,r=>by unfold FP at r;exact r.elim
 | .lst ts,w,_,r=>by
  unfold FP at r;obtain⟨a,vs,f,e,q1,q2,q3,rfl⟩:=r;intro b hb;rcases wD.mp hb with hb|hb
  ·exact jQ ts q3 b hb
  ·simp at hb;subst hb;exact⟨q1,vs,q2⟩
 | .tup ts,w,_,r=>by unfold FP at r;obtain⟨a,vs,e,q1,q2,q3⟩:=r;exact jQ ts q3
 | .ob o,w,_,r=>by unfold FP at r;obtain⟨_,rfl⟩:=r;intro a ha;simp at ha
theorem jQ{X:List Nat}{h:AH}:∀(ts:List T){ws:List V}{fp:List Nat},FPs X h ts ws fp->∀a∈fp,a∉X/\∃vs,h[a]?=some (.lst false vs)
 | [],w,_,r=>by unfold FPs at r;obtain⟨_,rfl⟩:=r;intro a ha;simp at ha
 |t::ts,w,_,r=>by
  unfold FPs at r;obtain⟨v,vs,f1,f2,e,q1,q2,rfl⟩:=r;intro b hb;rcases wD.mp hb with hb|hb
  ·exact C9 t q1 b hb
  ·exact jQ ts q2 b hb
end
mutual
theorem qAa{A X:List Nat}{h:AH}:∀(t:T){w:V},Rep A X h t w->t.lf=true->FP X h t w []
 | .v x,w,r,l=>by unfold Rep at r;unfold FP;exact⟨r,rfl⟩
 | .cell n,w,r,l=>by unfold T.lf at l;cases l
 | .fz ts,w,r,l=>by unfold T.lf at l;cases l
 | .lst ts,w,r,l=>by unfold T.lf at l;cases l
 | .tup ts,w,r,l=>by unfold Rep at r;unfold FP;obtain⟨a,vs,e,q1,q2,q3⟩:=r;exact⟨a,vs,e,q1,q2,O1 ts q3 (by unfold T.lf at l;exact l)⟩
 | .ob o,w,r,l=>by unfold Rep at r;unfold FP;exact⟨r,rfl⟩
theorem O1{A X:List Nat}{h:AH}:∀(ts:List T){ws:List V},qN A X h ts ws->T.lfs ts=true->FPs X h ts ws []
 | [],w,r,l=>by unfold qN at r;unfold FPs;exact⟨r,rfl⟩
 |t::ts,w,r,l=>by
  unfold qN at r;unfold FPs;obtain⟨v,vs,e,q1,q2⟩:=r;unfold T.lfs at l;simp only[Bool.and_eq_true]at l;exact⟨v,vs,[],[],e,qAa t q1 l.1,O1 ts q2 l.2,rfl⟩
end
mutual
theorem K6{A X A1 X1:List Nat}{h:AH}{n0:Nat}(hc:∀n,n<n0->A1[n]?=A[n]?)(hX:∀a∈X,a∈X1):∀(t:T){w:V},Rep A1 X1 h t w->t.und n0=true->Rep A X h t w
 | .v x,w,r,u=>by unfold Rep at r ⊢;exact r
 | .cell n,w,r,u=>by
  unfold Rep at r ⊢;obtain⟨a,e,q⟩:=r;unfold T.und at u;exact⟨a,(hc n (by simpa using u)).symm.trans e,q⟩
 | .fz ts,w,r,u=>by unfold Rep at r ⊢;obtain⟨a,vs,e,q1,q2,q3⟩:=r;exact⟨a,vs,e,λz=>q1 (hX _ z),q2,jK hc hX ts q3 (by unfold T.und at u;exact u)⟩
 | .lst ts,w,r,u=>by unfold Rep at r ⊢;obtain⟨a,vs,e,q1,q2,q3⟩:=r;exact⟨a,vs,e,λz=>q1 (hX _ z),q2,jK hc hX ts q3 (by unfold T.und at u;exact u)⟩
 | .tup ts,w,r,u=>by unfold Rep at r ⊢;obtain⟨a,vs,e,q1,q2,q3⟩:=r;exact⟨a,vs,e,λz=>q1 (hX _ z),q2,jK hc hX ts q3 (by unfold T.und at u;exact u)⟩
 | .ob o,w,r,u=>by unfold Rep at r ⊢;obtain⟨a,e,q1,q2⟩:=r;exact⟨a,e,λz=>q1 (hX _ z),q2⟩
theorem jK{A X A1 X1:List Nat}{h:AH}{n0:Nat}(hc:∀n,n<n0->A1[n]?=A[n]?)(hX:∀a∈X,a∈X1):∀(ts:List T){ws:List V},qN A1 X1 h ts ws->T.unds n0 ts=true->qN A X h ts ws
 | [],w,r,u=>by unfold qN at r ⊢;exact r
 |t::ts,w,r,u=>by
  unfold qN at r ⊢;obtain⟨v,vs,e,q1,q2⟩:=r;unfold T.unds at u;simp only[Bool.and_eq_true]at u;exact⟨v,vs,e,K6 hc hX t q1 u.1,jK hc hX ts q2 u.2⟩
end
theorem zn{x:V}{a:Nat}(h:flat x=true)(e:V.ref a=x):False:=by subst e;cases h
mutual
theorem I0{A X:List Nat}{h:AH}(nd:A.Nodup)(hs:∀a∈A,a∈X):∀(s t:T){w:V},Rep A X h s w->Rep A X h t w->s=t
 | .v x,t,w,r,q=>by
  unfold Rep at r;obtain⟨rfl,f⟩:=r;cases t with
  |v y=>unfold Rep at q;obtain⟨rfl,_⟩:=q;rfl
  |cell n=>unfold Rep at q;obtain⟨a,_,e⟩:=q;subst e;cases f
  |fz ts=>unfold Rep at q;obtain⟨a,vs,e,_⟩:=q;subst e;cases f
  |lst ts=>unfold Rep at q;obtain⟨a,vs,e,_⟩:=q;subst e;cases f
  |tup ts=>unfold Rep at q;obtain⟨a,vs,e,_⟩:=q;subst e;cases f
  |ob o=>unfold Rep at q;obtain⟨a,e,_⟩:=q;subst e;cases f
 | .cell n,t,w,r,q=>by
  unfold Rep at r;obtain⟨a,ea,rfl⟩:=r;have am:a∈X:=hs _ (List.mem_of_getElem? ea);cases t with
  |v y=>unfold Rep at q;obtain⟨e,f⟩:=q;exact(zn f e).elim
  |cell m=>
   unfold Rep at q;obtain⟨b,eb,e⟩:=q;cases e;have:n=m:=(wt (by exact(List.getElem?_eq_some_iff.mp ea).1) nd).mp (ea.trans eb.symm);rw[this]
  |fz ts=>unfold Rep at q;obtain⟨b,vs,e,k,_⟩:=q;cases e;exact(k am).elim
  |lst ts=>unfold Rep at q;obtain⟨b,vs,e,k,_⟩:=q;cases e;exact(k am).elim
  |tup ts=>unfold Rep at q;obtain⟨b,vs,e,k,_⟩:=q;cases e;exact(k am).elim
  |ob o=>unfold Rep at q;obtain⟨b,e,k,_⟩:=q;cases e;exact(k am).elim
 | .fz ss,t,w,r,q=>by
  unfold Rep at r;obtain⟨a,vs,rfl,k1,k2,k3⟩:=r;cases t with
  |v y=>unfold Rep at q;obtain⟨e,f⟩:=q;exact(zn f e).elim
  |cell m=>unfold Rep at q;obtain⟨b,eb,e⟩:=q;cases e;exact(k1 (hs _ (List.mem_of_getElem? eb))).elim
  |fz ts=>unfold Rep at q;obtain⟨b,vs',e,z1,z2,z3⟩:=q;cases e;rw[k2]at z2;cases z2;rw[jo nd hs ss ts k3 z3]
  |lst ts=>unfold Rep at q;obtain⟨b,vs',e,z1,z2,z3⟩:=q;cases e;rw[k2]at z2;cases z2
  |tup ts=>unfold Rep at q;obtain⟨b,vs',e,z1,z2,z3⟩:=q;cases e;rw[k2]at z2;cases z2
  |ob o=>unfold Rep at q;obtain⟨b,e,z1,z2⟩:=q;cases e;rw[k2]at z2;cases z2
 | .lst ss,t,w,r,q=>by
  unfold Rep at r;obtain⟨a,vs,rfl,k1,k2,k3⟩:=r;cases t with
  |v y=>unfold Rep at q;obtain⟨e,f⟩:=q;exact(zn f e).elim
  |cell m=>unfold Rep at q;obtain⟨b,eb,e⟩:=q;cases e;exact(k1 (hs _ (List.mem_of_getElem? eb))).elim
  |lst ts=>unfold Rep at q;obtain⟨b,vs',e,z1,z2,z3⟩:=q;cases e;rw[k2]at z2;cases z2;rw[jo nd hs ss ts k3 z3]
  |fz ts=>unfold Rep at q;obtain⟨b,vs',e,z1,z2,z3⟩:=q;cases e;rw[k2]at z2;cases z2
  |tup ts=>unfold Rep at q;obtain⟨b,vs',e,z1,z2,z3⟩:=q;cases e;rw[k2]at z2;cases z2
  |ob o=>unfold Rep at q;obtain⟨b,e,z1,z2⟩:=q;cases e;rw[k2]at z2;cases z2
 | .tup ss,t,w,r,q=>by
  unfold Rep at r;obtain⟨a,vs,rfl,k1,k2,k3⟩:=r;cases t with
  |v y=>unfold Rep at q;obtain⟨e,f⟩:=q;exact(zn f e).elim
  |cell m=>unfold Rep at q;obtain⟨b,eb,e⟩:=q;cases e;exact(k1 (hs _ (List.mem_of_getElem? eb))).elim
  |tup ts=>unfold Rep at q;obtain⟨b,vs',e,z1,z2,z3⟩:=q;cases e;rw[k2]at z2;cases z2;rw[jo nd hs ss ts k3 z3]
  |fz ts=>unfold Rep at q;obtain⟨b,vs',e,z1,z2,z3⟩:=q;cases e;rw[k2]at z2;cases z2
  |lst ts=>unfold Rep at q;obtain⟨b,vs',e,z1,z2,z3⟩:=q;cases e;rw[k2]at z2;cases z2
  |ob o=>unfold Rep at q;obtain⟨b,e,z1,z2⟩:=q;cases e;rw[k2]at z2;cases z2
 | .ob o,t,w,r,q=>by
  unfold Rep at r;obtain⟨a,rfl,k1,k2⟩:=r;cases t with
  |v y=>unfold Rep at q;obtain⟨e,f⟩:=q;exact(zn f e).elim
  |cell m=>unfold Rep at q;obtain⟨b,eb,e⟩:=q;cases e;exact(k1 (hs _ (List.mem_of_getElem? eb))).elim
  |fz ts=>unfold Rep at q;obtain⟨b,vs',e,z1,z2,z3⟩:=q;cases e;rw[k2]at z2;cases z2
  |lst ts=>unfold Rep at q;obtain⟨b,vs',e,z1,z2,z3⟩:=q;cases e;rw[k2]at z2;cases z2
  |tup ts=>unfold Rep at q;obtain⟨b,vs',e,z1,z2,z3⟩:=q;cases e;rw[k2]at z2;cases z2
  |ob o'=>unfold Rep at q;obtain⟨b,e,z1,z2⟩:=q;cases e;rw[k2]at z2;cases z2;rfl
theorem jo{A X:List Nat}{h:AH}(nd:A.Nodup)(hs:∀a∈A,a∈X):∀(ss ts:List T){ws:List V},qN A X h ss ws->qN A X h ts ws->ss=ts
 | [],[],w,r,q=>rfl
 | [],t::ts,w,r,q=>by unfold qN at r q;obtain⟨v,vs,e,_⟩:=q;subst r;cases e
 |s::ss,[],w,r,q=>by unfold qN at r q;obtain⟨v,vs,e,_⟩:=r;subst q;cases e
 |s::ss,t::ts,w,r,q=>by
  unfold qN at r q;obtain⟨v,vs,rfl,k1,k2⟩:=r;obtain⟨v',vs',e,z1,z2⟩:=q;cases e;rw[I0 nd hs s t k1 z1,jo nd hs ss ts k2 z2]
end
mutual
theorem qAw:∀(s t:T),T.beq s t=true->s=t
 | .v x,.v y,h=>by unfold T.beq at h;simp at h;rw[h]
 | .cell x,.cell y,h=>by unfold T.beq at h;simp at h;rw[h]
 | .fz x,.fz y,h=>by unfold T.beq at h;rw[jW x y h]
 | .lst x,.lst y,h=>by unfold T.beq at h;rw[jW x y h]
 | .tup x,.tup y,h=>by unfold T.beq at h;rw[jW x y h]
 | .ob x,.ob y,h=>by unfold T.beq at h;simp at h;rw[h]
 | .ob _,.v _,h | .ob _,.cell _,h | .ob _,.fz _,h | .ob _,.lst _,h | .ob _,.tup _,h=>by simp[T.beq]at h
 | .v _,.ob _,h | .cell _,.ob _,h | .fz _,.ob _,h | .lst _,.ob _,h | .tup _,.ob _,h=>by simp[T.beq]at h
 | .v _,.cell _,h | .v _,.fz _,h | .v _,.lst _,h | .v _,.tup _,h=>by simp[T.beq]at h
 | .cell _,.v _,h | .cell _,.fz _,h | .cell _,.lst _,h | .cell _,.tup _,h=>by simp[T.beq]at h
 | .fz _,.v _,h | .fz _,.cell _,h | .fz _,.lst _,h | .fz _,.tup _,h=>by simp[T.beq]at h
 | .lst _,.v _,h | .lst _,.cell _,h | .lst _,.fz _,h | .lst _,.tup _,h=>by simp[T.beq]at h
 | .tup _,.v _,h | .tup _,.cell _,h | .tup _,.fz _,h | .tup _,.lst _,h=>by simp[T.beq]at h
theorem jW:∀(ss ts:List T),T.beqs ss ts=true->ss=ts
 | [],[],h=>rfl
 | [],_::_,h=>by simp[T.beqs]at h
 |_::_,[],h=>by simp[T.beqs]at h
 |s::ss,t::ts,h=>by unfold T.beqs at h;simp only[Bool.and_eq_true]at h;rw[qAw s t h.1,jW ss ts h.2]
end
def Frm(A:List Nat)(h h':AH):Prop:=h.length<=h'.length/\∀j,j<h.length->j∉A->h'[j]?=h[j]?
theorem Frm.refl(A:List Nat)(h:AH):Frm A h h:=⟨Nat.le_refl _,λ_ _ _=>rfl⟩
theorem Frm.trans{A:List Nat}{a b c:AH}(x:Frm A a b)(y:Frm A b c):Frm A a c:=⟨Nat.le_trans x.1 y.1,λj hj hA=>(y.2 j (wC hj x.1) hA).trans (x.2 j hj hA)⟩
theorem Frm.trans2{A B:List Nat}{a b c:AH}(x:Frm A a b)(hB:∀k∈B,a.length<=k)(y:Frm (A++B) b c):Frm A a c:=
 ⟨Nat.le_trans x.1 y.1,λj hj hA=>(y.2 j (wC hj x.1) (by rw[wD];rintro(z|z);exact hA z;have:=hB _ z;omega)).trans (x.2 j hj hA)⟩
theorem Frm.app(A:List Nat)(h e:AH):Frm A h (h++e):=⟨by simp,λj hj _=>by rw[List.getElem?_append_left hj]⟩
theorem Frm.set{A:List Nat}{h h':AH}(f:Frm A h h'){a:Nat}(ha:a∈A\/h.length<=a)(o:O):Frm A h (h'.set a o):=⟨by simpa using f.1,λj hj hA=>by
 rw[wI (by rintro rfl;rcases ha with z|z;exact hA z;omega)];exact f.2 j hj hA⟩
theorem qM{h:AH}{a:Nat}{o:O}(e:h[a]?=some o):a<h.length:=(List.getElem?_eq_some_iff.mp e).1
structure RelM(gl:List T)(A X:List Nat)(h:AH)(M:Mem):Prop where
 len:A.length=M.length
 nd:A.Nodup
 sub:∀a∈A,a∈X
 lt:∀a∈X,a<h.length
 at_:∀(n:Nat) a,A[n]?=some a->∃ts vs,M[n]?=some ts/\h[a]?=some (.lst false vs)/\qN A X h ts vs
 glo:∀(g:Nat) t,gl[g]?=some t->Rep A X h t (.ref g)
section
variable{gl:List T}{A X:List Nat}{h h':AH}{M:Mem}
theorem RelM.keepN(R:RelM gl A X h M)(f:Frm A h h'):∀a o,a∉X->h[a]?=some o->a∉X/\h'[a]?=some o:=λa o hx e=>⟨hx,(f.2 a (qM e) λz=>hx (R.sub _ z)).trans e⟩
theorem RelM.keep(R:RelM gl A X h M)(f:Frm A h h'){t:T}{w:V}(r:Rep A X h t w):Rep A X h' t w:=zL (λ_ _ e=>e) (R.keepN f) t r
theorem RelM.keeps(R:RelM gl A X h M)(f:Frm A h h'){t:List T}{w:List V}(r:qN A X h t w):qN A X h' t w:=qO (λ_ _ e=>e) (R.keepN f) t r
theorem RelM.up(R:RelM gl A X h M)(e:AH):RelM gl A X (h++e) M:=by
 have f:Frm A h (h++e):=Frm.app A h e;refine⟨R.len,R.nd,R.sub,λa ha=>wC (R.lt a ha) f.1,λn a ea=>?_,λg t eg=>R.keep f (R.glo g t eg)⟩;obtain⟨ts,vs,e1,e2,e3⟩:=R.at_ n a ea;exact⟨ts,vs,e1,by rw[List.getElem?_append_left (qM e2)];exact e2,R.keeps f e3⟩
theorem RelM.put(R:RelM gl A X h M){n a:Nat}(ea:A[n]?=some a){ts:List T}{vs:List V}(r:qN A X h ts vs):RelM gl A X (h.set a (.lst false vs)) (M.set n ts)/\Frm A h (h.set a (.lst false vs)):=by
 have am:a∈A:=List.mem_of_getElem? ea;have f:Frm A h (h.set a (.lst false vs)):=(Frm.refl A h).set (.inl am) _;have al:a<h.length:=R.lt a (R.sub a am);refine⟨⟨by simpa using R.len,R.nd,R.sub,λb hb=>by simpa using R.lt b hb,λm b eb=>?_,λg t eg=>R.keep f (R.glo g t eg)⟩,f⟩;by_cases hm:n=m
 ·subst hm;rw[ea]at eb;cases eb;have nl:n<M.length:=by rw[<-R.len];exact(List.getElem?_eq_some_iff.mp ea).1
  exact⟨ts,vs,by rw[wN nl],by rw[wN al],R.keeps f r⟩
 ·obtain⟨ts',vs',e1,e2,e3⟩:=R.at_ m b eb;have hab:a≠b:=by
   rintro rfl;exact hm ((wt (List.getElem?_eq_some_iff.mp ea).1 R.nd).mp (ea.trans eb.symm))
  exact⟨ts',vs',by rw[wI hm];exact e1,by rw[wI hab];exact e2,R.keeps f e3⟩
end
def New(gl:List T)(A X:List Nat)(n:Nat)(h:AH)(M:Mem)(t:T)(w:V):Prop:=∀kvs,t=.ob (.dct kvs)->∃a,w=.ref a/\n<=a/\RelM gl A (X++[a]) h M
theorem New.of_lf{gl:List T}{A X:List Nat}{n:Nat}{h:AH}{M:Mem}{t:T}{w:V}(l:t.lf=true):New gl A X n h M t w:=λkvs e=>by subst e;cases l
theorem New.lst{gl:List T}{A X:List Nat}{n:Nat}{h:AH}{M:Mem}{ts:List T}{w:V}:New gl A X n h M (.lst ts) w:=λkvs e=>by cases e
theorem New.tup{gl:List T}{A X:List Nat}{n:Nat}{h:AH}{M:Mem}{ts:List T}{w:V}:New gl A X n h M (.tup ts) w:=λkvs e=>by cases e
def Frs(gl:List T)(A X:List Nat)(n:Nat)(h:AH)(M:Mem)(t:T)(w:V):Prop:=∃fp,FP X h t w fp/\fp.Nodup/\(∀a∈fp,n<=a)/\RelM gl A (X++fp) h M/\New gl A X n h M t w
def Frss(gl:List T)(A X:List Nat)(n:Nat)(h:AH)(M:Mem)(t:List T)(w:List V):Prop:=∃fp,FPs X h t w fp/\fp.Nodup/\(∀a∈fp,n<=a)/\RelM gl A (X++fp) h M
theorem Frs.of_lf{gl:List T}{A X:List Nat}{n:Nat}{h:AH}{M:Mem}{t:T}{w:V}(R:RelM gl A X h M)(r:Rep A X h t w)(l:t.lf=true):Frs gl A X n h M t w:=⟨[],qAa t r l,wu,λa ha=>by simp at ha,by rw[List.append_nil];exact R,New.of_lf l⟩
theorem Frss.of_lf{gl:List T}{A X:List Nat}{n:Nat}{h:AH}{M:Mem}{t:List T}{w:List V}(R:RelM gl A X h M)(r:qN A X h t w)(l:T.lfs t=true):Frss gl A X n h M t w:=⟨[],O1 t r l,wu,λa ha=>by simp at ha,by rw[List.append_nil];exact R⟩
def Sim{α β:Type}(gl:List T)(A X:List Nat)(h:AH)(Q:α->β->AH->Mem->Prop):PR (α×Mem)->Res (β×AH)->Prop
 | .ok (x,M'),r=>∃y h',r=.ok (y,h')/\Frm A h h'/\RelM gl A X h' M'/\Q x y h' M'
 | .exc c M',r=>∃h',r=.exc c h'/\Frm A h h'/\RelM gl A X h' M'
 | .stuck,_=>True
theorem Sim.bind{α β α2 β2:Type}{gl:List T}{A X:List Nat}{h:AH}{Q:α->β->AH->Mem->Prop}{Q2:α2->β2->AH->Mem->Prop}{r:PR (α×Mem)}{rh:Res (β×AH)}{f:α×Mem->PR (α2×Mem)}{g:β×AH->Res (β2×AH)}
  (s:Sim gl A X h Q r rh) (k:∀x M' y h',Frm A h h'->RelM gl A X h' M'->Q x y h' M'->Sim gl A X h' Q2 (f (x,M')) (g (y,h'))):Sim gl A X h Q2 (r.bind f) (rh.bind g):=by
 cases r with
 |ok p=>
  obtain⟨x,M'⟩:=p;obtain⟨y,h',rfl,f1,R1,q⟩:=s;have:=k x M' y h' f1 R1 q;rw[PR.bind_ok,Res.bind_ok];revert this;generalize f (x,M')=r2;generalize g (y,h')=rh2;intro s2;cases r2 with
  |ok p2=>
   obtain⟨x2,M2⟩:=p2;obtain⟨y2,h2,e2,f2,R2,q2⟩:=s2;exact⟨y2,h2,e2,f1.trans f2,R2,q2⟩
  |exc c M2=>
   obtain⟨h2,e2,f2,R2⟩:=s2;exact⟨h2,e2,f1.trans f2,R2⟩
  |stuck=>trivial
 |exc c M'=>
  obtain⟨h',rfl,f1,R1⟩:=s;exact⟨h',rfl,f1,R1⟩
 |stuck=>trivial
theorem Sim.nx{α β:Type}{gl:List T}{A X:List Nat}{h:AH}{Q:α->β->AH->Mem->Prop}{r:PR (α×Mem)}{rh:Res (β×AH)}(s:Sim gl A X h Q r rh):Sim gl A X h Q r.nx rh.nx:=by
 cases r with
 |ok p=>obtain⟨x,M'⟩:=p;obtain⟨y,h',rfl,a,b,c⟩:=s;exact⟨y,h',rfl,a,b,c⟩
 |exc c M'=>trivial
 |stuck=>trivial
theorem Sim.stuck{α β:Type}{gl:List T}{A X:List Nat}{h:AH}{Q:α->β->AH->Mem->Prop}{r:Res (β×AH)}:Sim gl A X h Q (.stuck:PR (α×Mem)) r:=trivial
theorem Sim.ofO{α β α2:Type}{gl:List T}{A X:List Nat}{h:AH}{Q:α->β->AH->Mem->Prop}{o:Option α2}{f:α2->PR (α×Mem)}{r:Res (β×AH)}(k:∀x,o=some x->Sim gl A X h Q (f x) r):Sim gl A X h Q ((PR.ofO o).bind f) r:=by
 cases o with
 |none=>trivial
 |some x=>exact k x rfl
def QE(gl:List T)(A X:List Nat)(n:Nat):TB->V->AH->Mem->Prop:=λx w h M=>Rep A X h x.1 w/\(x.2=true->Frs gl A X n h M x.1 w)
def QEs(gl:List T)(A X:List Nat)(n:Nat):List TB->List V->AH->Mem->Prop:=λx w h M=>qN A X h (x.map (·.1)) w/\(x.all (·.2)=true->Frss gl A X n h M (x.map (·.1)) w)
theorem QE.le{gl:List T}{A X:List Nat}{n m:Nat}{x:TB}{w:V}{h:AH}{M:Mem}(q:QE gl A X n x w h M)(l:m<=n):QE gl A X m x w h M:=⟨q.1,λe=>by obtain⟨fp,a,b,c,d,nw⟩:=q.2 e;exact⟨fp,a,b,λz hz=>Nat.le_trans l (c z hz),d,λkvs e=>by obtain⟨z,q1,q2,q3⟩:=nw kvs e;exact⟨z,q1,Nat.le_trans l q2,q3⟩⟩⟩
theorem Sim.le{gl:List T}{A X:List Nat}{h:AH}{n m:Nat}{r:PR (TB×Mem)}{rh:RV}(s:Sim gl A X h (QE gl A X n) r rh)(l:m<=n):Sim gl A X h (QE gl A X m) r rh:=by
 cases r with
 |ok p=>obtain⟨y,h',e,f,R,q⟩:=s;exact⟨y,h',e,f,R,q.le l⟩
 |exc c M=>exact s
 |stuck=>trivial
theorem RelM.weak{gl:List T}{A X X':List Nat}{h:AH}{M:Mem}(R:RelM gl A X' h M)(hX:∀a∈X,a∈X')(hA:∀a∈A,a∈X):RelM gl A X h M:=by
 have hn:∀a o,a∉X'->h[a]?=some o->a∉X/\h[a]?=some o:=λa o x y=>⟨λz=>x (hX _ z),y⟩
 refine⟨R.len,R.nd,hA,λa ha=>R.lt a (hX a ha),λn a e=>?_,λg t e=>zL (λ_ _ e=>e) hn t (R.glo g t e)⟩;obtain⟨ts,vs,e1,e2,e3⟩:=R.at_ n a e;exact⟨ts,vs,e1,e2,qO (λ_ _ e=>e) hn ts e3⟩
theorem RelM.addX{gl:List T}{A X X':List Nat}{h:AH}{M:Mem}(R:RelM gl A X h M){o:O}(h1:∀a,a∈X'↔a=h.length\/a∈X):RelM gl A X' (h++[o]) M:=by
 have hn:∀a o',a∉X->h[a]?=some o'->a∉X'/\(h++[o])[a]?=some o':=λa o' x y=>⟨by
  rw[h1];rintro(z|z)
  ·have:=qM y;omega
  ·exact x z,by rw[List.getElem?_append_left (qM y)];exact y⟩
 refine⟨R.len,R.nd,λa ha=>(h1 a).mpr (.inr (R.sub a ha)),λa ha=>?_,λn a e=>?_,λg t e=>zL (λ_ _ e=>e) hn t (R.glo g t e)⟩
 ·rcases(h1 a).mp ha with z|z
  ·simp[z]
  ·have:=R.lt a z;simp;omega
 ·obtain⟨ts,vs,e1,e2,e3⟩:=R.at_ n a e;exact⟨ts,vs,e1,by rw[List.getElem?_append_left (qM e2)];exact e2,qO (λ_ _ e=>e) hn ts e3⟩
section
variable{gl:List T}{A X:List Nat}{h:AH}{M:Mem}
theorem C3(R:RelM gl A X h M){t:T}{w:V}{ts:List T}(r:Rep A X h t w)(e:t.its M=some ts):∃a vs,w=.ref a/\items h a=some vs/\qN A X h ts vs:=by
 cases t with
 |v x=>cases e
 |cell n=>
  unfold Rep at r;obtain⟨a,ea,rfl⟩:=r;obtain⟨ts',vs,e1,e2,e3⟩:=R.at_ n a ea;have:M[n]?=some ts:=e;rw[e1]at this;cases this;exact⟨a,vs,rfl,by unfold items;rw[e2],e3⟩
 |fz xs=>unfold Rep at r;obtain⟨a,vs,rfl,_,q,k⟩:=r;cases e;exact⟨a,vs,rfl,by unfold items;rw[q],k⟩
 |lst xs=>unfold Rep at r;obtain⟨a,vs,rfl,_,q,k⟩:=r;cases e;exact⟨a,vs,rfl,by unfold items;rw[q],k⟩
 |tup xs=>unfold Rep at r;obtain⟨a,vs,rfl,_,q,k⟩:=r;cases e;exact⟨a,vs,rfl,by unfold items;rw[q],k⟩
 |ob o=>cases e
theorem jb(R:RelM gl A X h M){t:T}{w:V}{ts:List T}(r:Rep A X h t w)(e:t.lis M=some ts):∃a vs f,w=.ref a/\h[a]?=some (.lst f vs)/\qN A X h ts vs:=by
 cases t with
 |v x=>cases e
 |cell n=>
  unfold Rep at r;obtain⟨a,ea,rfl⟩:=r;obtain⟨ts',vs,e1,e2,e3⟩:=R.at_ n a ea;have:M[n]?=some ts:=e;rw[e1]at this;cases this;exact⟨a,vs,false,rfl,e2,e3⟩
 |fz xs=>unfold Rep at r;obtain⟨a,vs,rfl,_,q,k⟩:=r;cases e;exact⟨a,vs,true,rfl,q,k⟩
 |lst xs=>unfold Rep at r;obtain⟨a,vs,rfl,_,q,k⟩:=r;cases e;exact⟨a,vs,false,rfl,q,k⟩
 |tup xs=>cases e
 |ob o=>cases e
theorem D3(R:RelM gl A X h M){t:T}{w:V}{ts:List T}(r:Rep A X h t w)(e:t.mu M=some ts):∃a vs,w=.ref a/\qc h a=some vs/\qN A X h ts vs:=by
 cases t with
 |v x=>cases e
 |cell n=>
  unfold Rep at r;obtain⟨a,ea,rfl⟩:=r;obtain⟨ts',vs,e1,e2,e3⟩:=R.at_ n a ea;have:M[n]?=some ts:=e;rw[e1]at this;cases this;exact⟨a,vs,rfl,by unfold qc;rw[e2],e3⟩
 |fz xs=>cases e
 |lst xs=>unfold Rep at r;obtain⟨a,vs,rfl,_,q,k⟩:=r;cases e;exact⟨a,vs,rfl,by unfold qc;rw[q],k⟩
 |tup xs=>cases e
 |ob o=>cases e
theorem qZ{t:T}{x:V}(e:t.isV=some x):t=.v x:=by cases t<;>cases e;rfl
theorem jI{t:T}{w:V}(e:t.isV=none)(r:Rep A X h t w):∃a:Nat,w=.ref a:=by
 cases t with
 |v x=>cases e
 |cell n=>unfold Rep at r;obtain⟨a,_,e⟩:=r;exact⟨a,e⟩
 |fz xs=>unfold Rep at r;obtain⟨a,vs,e,_⟩:=r;exact⟨a,e⟩
 |lst xs=>unfold Rep at r;obtain⟨a,vs,e,_⟩:=r;exact⟨a,e⟩
 |tup xs=>unfold Rep at r;obtain⟨a,vs,e,_⟩:=r;exact⟨a,e⟩
 |ob o=>unfold Rep at r;obtain⟨a,e,_⟩:=r;exact⟨a,e⟩
theorem L4(R:RelM gl A X h M){ts:List T}{vs:List V}{n:Nat}{f:Bool}(r:qN A X h ts vs)(hn:n<=h.length)(hf:f=true->Frss gl A X n h M ts vs):Sim gl A X h (QE gl A X n) (.ok ((.lst ts,f),M)) (newL vs h):=by
 have fm:Frm A h (h++[O.lst false vs]):=Frm.app A h _;have hx:h.length∉X:=λz=>Nat.lt_irrefl _ (R.lt _ z);have ha:(h++[O.lst false vs])[h.length]?=some (.lst false vs):=by simp
 refine⟨.ref h.length,_,rfl,fm,R.up _,?_,λe=>?_⟩
 ·show Rep A X _ (.lst ts) _;unfold Rep;exact⟨_,vs,rfl,hx,ha,R.keeps fm r⟩
 ·obtain⟨fp,p,nd,l,R'⟩:=hf e;refine⟨fp++[h.length],?_,?_,?_,R'.addX λa=>by simp only[wD,List.mem_singleton];grind,New.lst⟩
  ·show FP X _ (.lst ts) _ _;unfold FP;exact⟨_,vs,fp,rfl,hx,ha,zV (R.keepN fm) ts p,rfl⟩
  ·rw[wZ];refine⟨nd,by simp,?_⟩;rintro a ha b hb rfl;obtain⟨_,vs',q⟩:=jQ ts p a ha;simp at hb;have:=qM q;omega
  ·intro a ha;rcases wD.mp ha with z|z
   ·exact l a z
   ·simp at z;omega
theorem JP(R:RelM gl A X h M){ts:List T}{vs:List V}{n:Nat}{f:Bool}(r:qN A X h ts vs)(hf:f=true->Frss gl A X n h M ts vs):Sim gl A X h (QE gl A X n) (.ok ((.tup ts,f),M)) (newT vs h):=by
 have fm:Frm A h (h++[O.tup vs]):=Frm.app A h _;have hx:h.length∉X:=λz=>Nat.lt_irrefl _ (R.lt _ z);have ha:(h++[O.tup vs])[h.length]?=some (.tup vs):=by simp
 refine⟨.ref h.length,_,rfl,fm,R.up _,?_,λe=>?_⟩
 ·show Rep A X _ (.tup ts) _;unfold Rep;exact⟨_,vs,rfl,hx,ha,R.keeps fm r⟩
 ·obtain⟨fp,p,nd,l,R'⟩:=hf e;refine⟨fp,?_,nd,l,R'.up _,New.tup⟩;show FP X _ (.tup ts) _ _;unfold FP;exact⟨_,vs,rfl,hx,ha,zV (R.keepN fm) ts p⟩
theorem F8(R:RelM gl A X h M){ts:List T}{vs:List V}(r:qN A X h ts vs):Sim gl A X h (QE gl A X h.length) (.ok (lT ts,M)) (newL vs h):=
 L4 R r (Nat.le_refl _) λe=>Frss.of_lf R r e
theorem qG(R:RelM gl A X h M){x:V}(fx:flat x=true){n:Nat}:Sim gl A X h (QE gl A X n) (.ok ((.v x,true),M)) (.ok (x,h)):=
 have r:Rep A X h (.v x) x:=by unfold Rep;exact⟨rfl,fx⟩
 ⟨x,h,rfl,Frm.refl A h,R,r,λ_=>Frs.of_lf R r rfl⟩
theorem zO{x w:V}(r:Rep A X h (.v x) w):w=x:=by unfold Rep at r;exact r.1
theorem qAZ(xs:List T):T.lf (.tup xs)=T.lfs xs:=by rw[T.lf]
theorem qAP(R:RelM gl A X h M){op:BOp}{s t:T}{x y:V}{r:TB}(e:zJ M op s t=some r)(r1:Rep A X h s x)(r2:Rep A X h t y):Sim gl A X h (QE gl A X h.length) (.ok (r,M)) (z0 op x y h):=by
 unfold zJ at e;split at e
 ·rename_i i j e1 e2;cases qZ e1;cases qZ e2;cases zO r1;cases zO r2;cases op with
  |add=>cases e;exact qG R rfl
  |sub=>cases e;exact qG R rfl
  |mul=>dsimp only at e;split at e<;>cases e;rename_i c;show Sim _ _ _ _ _ _ (if _ then _ else _);rw[if_pos c];exact qG R rfl
  |fdiv=>
   dsimp only at e;show Sim _ _ _ _ _ _ (if _ then _ else _);split at e
   ·rename_i c;cases e;rw[if_pos c];exact qG R rfl
   ·rename_i c;rw[if_neg c];split at e
    ·rename_i c;cases e;rw[if_pos c];exact qG R rfl
    ·cases e
  |mod=>
   dsimp only at e;show Sim _ _ _ _ _ _ (if _ then _ else _);split at e
   ·rename_i c;cases e;rw[if_pos c];exact qG R rfl
   ·rename_i c;rw[if_neg c];split at e
    ·rename_i c;cases e;rw[if_pos c];exact qG R rfl
    ·cases e
  |pow=>dsimp only at e;split at e<;>cases e;rename_i c;show Sim _ _ _ _ _ _ (if _ then _ else _);rw[if_pos c];exact qG R rfl
  |band=>cases e;exact qG R rfl
  |shl=>dsimp only at e;split at e<;>cases e;rename_i c;show Sim _ _ _ _ _ _ (if _ then _ else _);rw[if_pos c];exact qG R rfl
 ·rename_i k e1 e2;cases qZ e2;cases zO r2;obtain⟨a,rfl⟩:=jI e1 r1;cases op<;>first|cases e|skip
  dsimp only at e;cases em:s.mu M with
  |none=>rw[em]at e;cases e
  |some xs=>
   rw[em]at e;dsimp only[Option.bind_some]at e;split at e<;>cases e;rename_i c;obtain⟨a',vs,ea,m,rs⟩:=D3 R r1 em;cases ea;have lv:vs.length=xs.length:=(qA (reps_iff.mp rs)).symm;show Sim _ _ _ _ _ _ (match qc h a with|some xs=>_|none=>_);rw[m];dsimp only;rw[if_pos (by rw[lv];exact c)];exact F8 R (reps_iff.mpr (X2 _ (reps_iff.mp rs)))
 ·rename_i e1 e2;obtain⟨a,rfl⟩:=jI e1 r1;obtain⟨b,rfl⟩:=jI e2 r2;cases op<;>first|cases e|skip
  dsimp only at e;split at e
  ·rename_i xs ys;split at e<;>cases e;rename_i c;unfold Rep at r1 r2;obtain⟨a1,vs,ea,n1,k1,q1⟩:=r1;cases ea;obtain⟨b1,us,eb,n2,k2,q2⟩:=r2;cases eb;have lv:vs.length=xs.length:=(qA (reps_iff.mp q1)).symm;have lu:us.length=ys.length:=(qA (reps_iff.mp q2)).symm;have m1:qc h a=none:=by unfold qc;rw[k1]
   have t1:qW h a=some vs:=by unfold qW;rw[k1]
   have t2:qW h b=some us:=by unfold qW;rw[k2]
   have q3:=reps_iff.mpr (ql (reps_iff.mp q1) (reps_iff.mp q2));show Sim _ _ _ _ _ _ (match qc h a,qc h b with|some xs,some ys=>_|_,_=>_);rw[m1];show Sim _ _ _ _ _ _ (match qW h a,qW h b with|some xs,some ys=>_|_,_=>_);rw[t1,t2];dsimp only;rw[if_pos ⟨λz=>c.1 (by subst z;exact List.length_eq_zero_iff.mp lv.symm),by rw[lv,lu];exact c.2⟩];split
   ·rename_i z;subst z;have y0:ys=[]:=List.length_eq_zero_iff.mp lu.symm;subst y0;have r:Rep A X h (.tup (xs++[])) (.ref a):=by
     rw[List.append_nil];unfold Rep;exact⟨a,vs,rfl,n1,k1,q1⟩
    exact⟨_,h,rfl,Frm.refl A h,R,r,λe=>Frs.of_lf R r (by rw[qAZ];exact e)⟩
   ·exact JP R q3 λe=>Frss.of_lf R q3 e
  cases em:s.mu M with
  |none=>rw[em]at e;cases e
  |some xs=>
   rw[em]at e;dsimp only[Option.bind_some]at e;cases en:t.mu M with
   |none=>rw[en]at e;cases e
   |some ys=>
    rw[en]at e;dsimp only[Option.bind_some]at e;split at e<;>cases e;rename_i c;obtain⟨a',vs,ea,m,rs⟩:=D3 R r1 em;cases ea;obtain⟨b',us,eb,m2,rs2⟩:=D3 R r2 en;cases eb;have lv:vs.length=xs.length:=(qA (reps_iff.mp rs)).symm;have lu:us.length=ys.length:=(qA (reps_iff.mp rs2)).symm;show Sim _ _ _ _ _ _ (match qc h a,qc h b with|some xs,some ys=>_|_,_=>_);rw[m,m2];dsimp only;rw[if_pos (by rw[lv,lu];exact c)];exact F8 R (reps_iff.mpr (ql (reps_iff.mp rs) (reps_iff.mp rs2)))
 ·cases e
theorem B8{x:V}{b:Bool}(e:eqF x x=some b):b=true:=by
 cases x with
 |int i=>cases e;exact vI i
 |bl i=>cases e;exact vI i
 |str i=>cases e;exact vI i
 |non=>cases e;rfl
 |_=>cases e
theorem jD{f:T->T->Option Bool}(hf:∀t b,f t t=some b->b=true):∀(ts:List T) bs,qi f ts ts=some bs->bs.all id=true
 | [],bs,e=>by cases e;rfl
 |t::ts,bs,e=>by
  unfold qi at e;split at e
  ·rename_i b bs' e1 e2;cases e;rw[List.all_cons,hf t b e1,jD hf ts bs' e2];rfl
  ·cases e
theorem ZG:∀(n:Nat) (t:T) (b:Bool),eqT M n t t=some b->b=true
 | 0,t,b,e=>by
  unfold eqT at e;split at e
  ·rename_i x y e1 e2;rw[e1]at e2;cases e2;exact B8 e
  ·cases e
 |n+1,t,b,e=>by
  unfold eqT at e;split at e
  ·rename_i x y e1 e2;rw[e1]at e2;cases e2;exact B8 e
  ·rename_i e1 e2;rw[e1]at e2;cases e2
  ·rename_i e1 e2;rw[e1]at e2;cases e2
  ·split at e
   ·rename_i xs ys e1 e2;rw[e1]at e2;cases e2;rw[if_pos rfl]at e;obtain⟨bs,eb,rfl⟩:=Option.map_eq_some_iff.mp e;exact jD (ZG n) xs bs eb
   ·rename_i e1 e2;rw[e1]at e2;cases e2
   ·rename_i e1 e2;rw[e1]at e2;cases e2
   ·split at e
    ·rename_i xs ys e1 e2;rw[e1]at e2;cases e2;rw[if_pos rfl]at e;obtain⟨bs,eb,rfl⟩:=Option.map_eq_some_iff.mp e;exact jD (ZG n) xs bs eb
    ·cases e
theorem jm{f:T->T->Option Bool}{g:V->V->Option Bool}(hf:∀s t x y b,Rep A X h s x->Rep A X h t y->f s t=some b->g x y=some b):∀{ss ts:List T}{xs ys:List V}{bs:List Bool},qN A X h ss xs->qN A X h ts ys->qi f ss ts=some bs->Qa g xs ys=some bs
 | [],[],xs,ys,bs,r1,r2,e=>by unfold qN at r1 r2;subst r1 r2;exact e
 | [],t::ts,xs,ys,bs,r1,r2,e=>by cases e
 |s::ss,[],xs,ys,bs,r1,r2,e=>by cases e
 |s::ss,t::ts,xs,ys,bs,r1,r2,e=>by
  unfold qN at r1 r2;obtain⟨x,xs',rfl,a1,a2⟩:=r1;obtain⟨y,ys',rfl,b1,b2⟩:=r2;unfold qi at e;split at e
  ·rename_i b bs' e1 e2;cases e;unfold Qa;rw[hf s t x y b a1 b1 e1,jm hf a2 b2 e2]
  ·cases e
theorem jV{x w:V}(r:Rep A X h (.v x) w):flat x=true:=by unfold Rep at r;exact r.2
theorem B7(R:RelM gl A X h M){t:T}{a:Nat}(r:Rep A X h t (.ref a))(hs:(t.its M).isSome=true):(items h a).isSome=true:=by
 cases t with
 |v x=>unfold Rep at r;exact(zn r.2 r.1).elim
 |cell n=>unfold Rep at r;obtain⟨b,eb,e⟩:=r;cases e;obtain⟨_,_,_,q,_⟩:=R.at_ n _ eb;unfold items;rw[q];rfl
 |fz xs=>unfold Rep at r;obtain⟨b,vs,e,_,q,_⟩:=r;cases e;unfold items;rw[q];rfl
 |lst xs=>unfold Rep at r;obtain⟨b,vs,e,_,q,_⟩:=r;cases e;unfold items;rw[q];rfl
 |tup xs=>unfold Rep at r;obtain⟨b,vs,e,_,q,_⟩:=r;cases e;unfold items;rw[q];rfl
 |ob o=>cases hs
theorem Jt{t:T}{w:V}{ts:List T}(r:Rep A X h t w)(e1:t.isV=none)(e2:t.lis M=none)(e:t.its M=some ts):∃a vs,w=.ref a/\h[a]?=some (.tup vs)/\qN A X h ts vs:=by
 cases t with
 |v x=>cases e1
 |cell n=>have z:M[n]?=some ts:=e;have z2:M[n]?=none:=e2;rw[z]at z2;cases z2
 |fz xs=>cases e2
 |lst xs=>cases e2
 |tup xs=>unfold Rep at r;obtain⟨b,vs,e',_,q,k⟩:=r;cases e;exact⟨b,vs,e',q,k⟩
 |ob o=>cases e
theorem W8{n:Nat}{x y:V}(fx:flat x=true)(fy:flat y=true):eqD h (n+1) x y=eqF x y:=by
 cases x<;>cases y<;>first|rfl|(simp[flat]at fx;done)|(simp[flat]at fy;done)
theorem ZT(R:RelM gl A X h M):∀(n:Nat) (s t:T) (x y:V) (b:Bool),Rep A X h s x->Rep A X h t y->eqT M n s t=some b->eqD h n x y=some b
 | 0,s,t,x,y,b,r1,r2,e=>by
  unfold eqT at e;split at e
  ·rename_i x' y' e1 e2;cases qZ e1;cases qZ e2;cases zO r1;cases zO r2;unfold eqD;exact e
  ·cases e
 |n+1,s,t,x,y,b,r1,r2,e=>by
  unfold eqT at e;split at e
  ·rename_i x' y' e1 e2;cases qZ e1;cases qZ e2;cases zO r1;cases zO r2;rw[W8 (jV r1) (jV r2)];exact e
  ·rename_i x' e1 e2;cases qZ e1;cases zO r1;obtain⟨c,rfl⟩:=jI e2 r2;have fx:=jV r1;split at e<;>cases e;rename_i hz;have:=B7 R r2 hz;cases x<;>first|(unfold eqD;simp[flat,this];done)|(simp[flat]at fx;done)
  ·rename_i y' e1 e2;cases qZ e2;cases zO r2;obtain⟨c,rfl⟩:=jI e1 r1;have fx:=jV r2;split at e<;>cases e;rename_i hz;have:=B7 R r1 hz;cases y<;>first|(unfold eqD;simp[flat,this];done)|(simp[flat]at fx;done)
  ·rename_i e1 e2;obtain⟨c,rfl⟩:=jI e1 r1;obtain⟨d,rfl⟩:=jI e2 r2;have same:c=d->b=true:=by
    rintro rfl;have:=I0 R.nd R.sub s t r1 r2;subst this;refine ZG (M:=M) (n+1) s b ?_;unfold eqT;rw[e1];exact e
   split at e
   ·rename_i xs ys l1 l2;obtain⟨_,vs,f1,q1,k1,m1⟩:=jb R r1 l1;cases q1;obtain⟨_,us,f2,q2,k2,m2⟩:=jb R r2 l2;cases q2;unfold eqD;rw[k1,k2];dsimp only;by_cases hcd:c=d
    ·rw[if_pos hcd,same hcd]
    ·rw[if_neg hcd,<-qA (reps_iff.mp m1),<-qA (reps_iff.mp m2)];split at e
     ·rename_i hl;rw[if_pos hl];obtain⟨bs,eb,rfl⟩:=Option.map_eq_some_iff.mp e;rw[jm (λs t x y b a1 a2 a3=>ZT R n s t x y b a1 a2 a3) m1 m2 eb];rfl
     ·rename_i hl;rw[if_neg hl];exact e
   ·rename_i l1 l2;obtain⟨_,vs,f1,q1,k1,m1⟩:=jb R r1 l1;cases q1;split at e<;>cases e;rename_i z;cases ei:t.its M with
    |none=>rw[ei]at z;cases z
    |some ys=>
     obtain⟨_,us,q2,k2,m2⟩:=Jt r2 e2 l2 ei;cases q2;unfold eqD;rw[k1,k2]
   ·rename_i l1 l2;obtain⟨_,vs,f1,q1,k1,m1⟩:=jb R r2 l2;cases q1;split at e<;>cases e;rename_i z;cases ei:s.its M with
    |none=>rw[ei]at z;cases z
    |some ys=>
     obtain⟨_,us,q2,k2,m2⟩:=Jt r1 e1 l1 ei;cases q2;unfold eqD;rw[k1,k2]
   ·rename_i l1 l2;split at e
    ·rename_i xs ys i1 i2;obtain⟨_,vs,q1,k1,m1⟩:=Jt r1 e1 l1 i1;cases q1;obtain⟨_,us,q2,k2,m2⟩:=Jt r2 e2 l2 i2;cases q2;unfold eqD;rw[k1,k2];dsimp only;by_cases hcd:c=d
     ·rw[if_pos hcd,same hcd]
     ·rw[if_neg hcd,<-qA (reps_iff.mp m1),<-qA (reps_iff.mp m2)];split at e
      ·rename_i hl;rw[if_pos hl];obtain⟨bs,eb,rfl⟩:=Option.map_eq_some_iff.mp e;rw[jm (λs t x y b a1 a2 a3=>ZT R n s t x y b a1 a2 a3) m1 m2 eb];rfl
      ·rename_i hl;rw[if_neg hl];obtain⟨bs,eb,rfl⟩:=Option.map_eq_some_iff.mp e;rw[jm (λs t x y b a1 a2 a3=>ZT R n s t x y b a1 a2 a3) (reps_iff.mpr (zN _ (reps_iff.mp m1))) (reps_iff.mpr (zN _ (reps_iff.mp m2))) eb];rfl
    ·cases e
theorem Jm:∀{ts:List T}{vs xs:List V},qN A X h ts vs->jE ts=some xs->vs=xs/\xs.all flat=true
 | [],vs,xs,r,e=>by unfold qN at r;subst r;cases e;exact⟨rfl,rfl⟩
 |t::ts,vs,xs,r,e=>by
  unfold qN at r;obtain⟨v,vs',rfl,a,b⟩:=r;cases t with
  |v x=>
   unfold jE at e;obtain⟨xs',e',rfl⟩:=Option.map_eq_some_iff.mp e;obtain⟨rfl,k⟩:=Jm b e';cases zO a;exact⟨rfl,by rw[List.all_cons,jV a,k];rfl⟩
  |_=>cases e
theorem p9{t:T}{kvs:List (Int×V)}{w:V}(e:t.dct=some kvs)(r:Rep A X h t w):∃p:Nat,w=.ref p/\p∉X/\h[p]?=some (.ob (.dct kvs)):=by
 cases t with
 |ob o=>
  cases o with
  |dct k=>cases e;unfold Rep at r;exact r
  |exn c=>cases e
 |_=>cases e
theorem d7(R:RelM gl A X h M){s t:T}{x y:V}{b:Bool}(r1:Rep A X h s x)(r2:Rep A X h t y)(e:inT M s t=some b):G4 .inn x y h=some b/\G4 .notin x y h=some (!b):=by
 unfold inT at e;cases hd:t.dct with
 |some kvs=>
  rw[hd]at e;obtain⟨p,rfl,q1,q2⟩:=p9 hd r2;have i0:items h p=none:=by unfold items;rw[q2]
  have d0:Jg h p=some kvs:=by unfold Jg;rw[q2]
  dsimp only at e;split at e
  ·cases e;cases zO r1;constructor
   ·dsimp only[G4,j8];rw[i0];dsimp only;rw[d0]
   ·dsimp only[G4,j8];rw[i0];dsimp only;rw[d0]
  ·cases e
 |none=>
 rw[hd]at e;dsimp only at e;obtain⟨a,ea,e⟩:=Option.bind_eq_some_iff.mp e;obtain⟨ts,et,e⟩:=Option.bind_eq_some_iff.mp e;obtain⟨xs,ex,rfl⟩:=Option.map_eq_some_iff.mp e;cases qZ ea;cases zO r1;obtain⟨p,vs,rfl,q1,q2⟩:=C3 R r2 et;obtain⟨rfl,k⟩:=Jm q2 ex;have fx:=jV r1;constructor
 ·dsimp only[G4,j8];rw[q1];dsimp only;rw[if_pos (by rw[fx,k];rfl)]
 ·dsimp only[G4,j8];rw[q1];dsimp only;rw[if_pos (by rw[fx,k];rfl)]
theorem ZO(R:RelM gl A X h M){op:COp}{s t:T}{x y:V}{b:Bool}(r1:Rep A X h s x)(r2:Rep A X h t y)(e:qe M op s t=some b):G4 op x y h=some b:=by
 cases op with
 |eq=>exact ZT R 4 s t x y b r1 r2 e
 |ne=>
  obtain⟨c,ec,rfl⟩:=Option.map_eq_some_iff.mp (show (eqT M 4 s t).map (!·)=some b from e);show (eqD h 4 x y).map (!·)=_;rw[ZT R 4 s t x y c r1 r2 ec];rfl
 |inn=>exact(d7 R r1 r2 e).1
 |notin=>
  obtain⟨c,ec,rfl⟩:=Option.map_eq_some_iff.mp (show (inT M s t).map (!·)=some b from e);exact(d7 R r1 r2 ec).2
 |is=>
  unfold qe at e;dsimp only at e;split at e
  ·rename_i e2;cases qZ e2;cases zO r2;cases e;show some (decide (x=V.non))=_;cases hs:s.isV with
   |none=>obtain⟨a,rfl⟩:=jI hs r1;rfl
   |some z=>cases qZ hs;cases zO r1;cases x<;>rfl
  ·rename_i e2;cases qZ e2;cases zO r2;split at e
   ·rename_i e3;cases qZ e3;cases zO r1;exact e
   ·cases e
  ·cases e
 |isnot=>
  unfold qe at e;dsimp only at e;split at e
  ·rename_i e2;cases qZ e2;cases zO r2;cases e;show some (!decide (x=V.non))=_;cases hs:s.isV with
   |none=>obtain⟨a,rfl⟩:=jI hs r1;rfl
   |some z=>cases qZ hs;cases zO r1;cases x<;>rfl
  ·rename_i e2;cases qZ e2;cases zO r2;split at e
   ·rename_i e3;cases qZ e3;cases zO r1;exact e
   ·cases e
  ·cases e
 |lt=>unfold qe at e;dsimp only at e;split at e<;>first|(rename_i e1 e2;cases qZ e1;cases qZ e2;cases zO r1;cases zO r2;exact e)|cases e
 |le=>unfold qe at e;dsimp only at e;split at e<;>first|(rename_i e1 e2;cases qZ e1;cases qZ e2;cases zO r1;cases zO r2;exact e)|cases e
 |gt=>unfold qe at e;dsimp only at e;split at e<;>first|(rename_i e1 e2;cases qZ e1;cases qZ e2;cases zO r1;cases zO r2;exact e)|cases e
 |ge=>unfold qe at e;dsimp only at e;split at e<;>first|(rename_i e1 e2;cases qZ e1;cases qZ e2;cases zO r1;cases zO r2;exact e)|cases e
theorem Ja:∀{ts:List T}{vs:List V}{is:List Int},qN A X h ts vs->zX ts=some is->zx vs=some is
 | [],vs,xs,r,e=>by unfold qN at r;subst r;cases e;rfl
 |t::ts,vs,xs,r,e=>by
  unfold qN at r;obtain⟨v,vs',rfl,a,b⟩:=r;unfold zX at e;split at e
  ·rename_i e';cases e'
  ·rename_i e';cases e';obtain⟨xs',e',rfl⟩:=Option.map_eq_some_iff.mp e;cases zO a;show (zx vs').map _=_;rw[Ja b e'];rfl
  ·cases e
theorem Jx:∀{ts:List T}{vs:List V}{is:List Bool},qN A X h ts vs->zW ts=some is->jZ vs=some is
 | [],vs,xs,r,e=>by unfold qN at r;subst r;cases e;rfl
 |t::ts,vs,xs,r,e=>by
  unfold qN at r;obtain⟨v,vs',rfl,a,b⟩:=r;unfold zW at e;split at e
  ·rename_i e';cases e'
  ·rename_i e';cases e';obtain⟨xs',e',rfl⟩:=Option.map_eq_some_iff.mp e;cases zO a;show (jZ vs').map _=_;rw[Jx b e'];rfl
  ·cases e
theorem QZ{t:T}{ws:List V}(r:qN A X h [t] ws):∃w,ws=[w]/\Rep A X h t w:=by
 unfold qN at r;obtain⟨v,vs,rfl,a,b⟩:=r;unfold qN at b;subst b;exact⟨v,rfl,a⟩
theorem qBa{s t:T}{ws:List V}(r:qN A X h [s,t] ws):∃w u,ws=[w,u]/\Rep A X h s w/\Rep A X h t u:=by
 unfold qN at r;obtain⟨v,vs,rfl,a,b⟩:=r;obtain⟨u,rfl,c⟩:=QZ b;exact⟨v,u,rfl,a,c⟩
theorem qV{a:Nat}{f:Bool}{vs:List V}(e:h[a]?=some (.lst f vs)):qP h a=some vs:=by unfold qP;rw[e]
theorem Jb(R:RelM gl A X h M){t:T}{w:V}{n:Nat}(r:Rep A X h t w):Sim gl A X h (QE gl A X n) (.ok ((t,t.lf),M)) (.ok (w,h)):=
 ⟨w,h,rfl,Frm.refl A h,R,r,λe=>Frs.of_lf R r e⟩
theorem w6(R:RelM gl A X h M){f:BF}{ts:List T}{ws:List V}{r:TB}(rs:qN A X h ts ws)(e:zr M f ts=some r):Sim gl A X h (QE gl A X h.length) (.ok (r,M)) (qAj f ws h):=by
 cases f with
 |len=>
  replace e:=jN e;obtain⟨t0,rfl,e⟩:=e;obtain⟨w,rfl,rw_⟩:=QZ rs;obtain⟨xs,ex,rfl⟩:=Option.map_eq_some_iff.mp e;obtain⟨a,vs,rfl,q1,q2⟩:=C3 R rw_ ex;show Sim _ _ _ _ _ _ (match items h a with|some xs=>_|none=>_);rw[q1,qA (reps_iff.mp q2)];exact qG R rfl
 |all=>
  replace e:=jN e;obtain⟨t0,rfl,e⟩:=e;obtain⟨w,rfl,rw_⟩:=QZ rs;obtain⟨xs,ex,e⟩:=Option.bind_eq_some_iff.mp e;obtain⟨is,ei,rfl⟩:=Option.map_eq_some_iff.mp e;obtain⟨a,vs,f,rfl,q1,q2⟩:=jb R rw_ ex;show Sim _ _ _ _ _ _ (match qP h a with|some xs=>_|none=>_);rw[qV q1];dsimp only;rw[Jx q2 ei];exact qG R rfl
 |max=>
  replace e:=twoT_inv e;obtain⟨i,j,rfl,e⟩:=e;obtain⟨w,u,rfl,a,b⟩:=qBa rs;cases zO a;cases zO b;cases e;exact qG R rfl
 |min=>
  replace e:=twoT_inv e;obtain⟨i,j,rfl,e⟩:=e;obtain⟨w,u,rfl,a,b⟩:=qBa rs;cases zO a;cases zO b;cases e;exact qG R rfl
 |bits=>
  replace e:=jN e;obtain⟨t0,rfl,e⟩:=e;split at e
  ·obtain⟨w,rfl,a⟩:=QZ rs;cases zO a;cases e;exact qG R rfl
  ·cases e
 |list=>
  replace e:=jN e;obtain⟨t0,rfl,e⟩:=e;obtain⟨w,rfl,rw_⟩:=QZ rs;obtain⟨xs,ex,rfl⟩:=Option.map_eq_some_iff.mp e;obtain⟨a,vs,rfl,q1,q2⟩:=C3 R rw_ ex;show Sim _ _ _ _ _ _ (match items h a with|some xs=>_|none=>_);rw[q1];exact F8 R q2
 |int=>
  replace e:=jN e;obtain⟨t0,rfl,e⟩:=e;split at e
  ·obtain⟨w,rfl,a⟩:=QZ rs;cases zO a;cases e;exact qG R rfl
  ·obtain⟨w,rfl,a⟩:=QZ rs;cases zO a;cases e;exact qG R rfl
  ·cases e
theorem U7(R:RelM gl A X h M){t:T}{w:V}{s:String}(r:Rep A X h t w)(e:zd M t=some s):zf h w=some s:=by
 cases t with
 |v x=>cases zO r;cases w<;>first|exact e|(cases e;done)
 |cell n=>unfold Rep at r;obtain⟨a,ea,rfl⟩:=r;obtain⟨ts,vs,e1,e2,_⟩:=R.at_ n a ea;unfold zd at e;dsimp only at e;rw[e1]at e;cases e;unfold zf;dsimp only;rw[e2]
 |fz xs=>unfold Rep at r;obtain⟨a,vs,rfl,_,q,_⟩:=r;cases e;unfold zf;dsimp only;rw[q]
 |lst xs=>unfold Rep at r;obtain⟨a,vs,rfl,_,q,_⟩:=r;cases e;unfold zf;dsimp only;rw[q]
 |tup xs=>unfold Rep at r;obtain⟨a,vs,rfl,_,q,_⟩:=r;cases e;unfold zf;dsimp only;rw[q]
 |ob o=>cases o with
  |dct=>unfold Rep at r;obtain⟨a,rfl,_,q⟩:=r;cases e;unfold zf;dsimp only;rw[q]
  |exn c=>cases e
theorem Zq{ts:List T}{vs:List V}{lo hi:Option Int}(r:qN A X h ts vs):qN A X h (W9 ts lo hi) (L2.cutV vs lo hi):=by
 have l:=qA (reps_iff.mp r);unfold W9 L2.cutV;rw[l];exact reps_iff.mpr (zN _ (jG _ (reps_iff.mp r)))
end
def i8(A X:List Nat)(h:AH):Option T->Option V->Prop
 |none,_=>True
 |some t,some w=>Rep A X h t w
 |some _,none=>False
abbrev jL(A X:List Nat)(h:AH):TS->List (Option V)->Prop:=zu (i8 A X h)
section
variable{gl:List T}{A X:List Nat}{h h':AH}{M M':Mem}{σ:TS}{σh:List (Option V)}
theorem A7{i:Nat}{t:T}(r:jL A X h σ σh)(e:σ[i]?=some (some t)):∃w,σh[i]?=some (some w)/\Rep A X h t w:=by
 obtain⟨o,e1,q⟩:=qm r e;cases o with
 |none=>exact q.elim
 |some w=>exact⟨w,e1,q⟩
theorem zQ{A' X':List Nat}(hc:∀(n:Nat) a,A[n]?=some a->A'[n]?=some a)(hn:∀a o,a∉X->h[a]?=some o->a∉X'/\h'[a]?=some o)(r:jL A X h σ σh):jL A' X' h' σ σh:=
 Zr (λx y q=>by
  cases x with
  |none=>trivial
  |some t=>cases y with
   |none=>exact q.elim
   |some w=>exact zL hc hn t q) r
theorem RelM.keepS(R:RelM gl A X h M)(f:Frm A h h')(r:jL A X h σ σh):jL A X h' σ σh:=zQ (λ_ _ e=>e) (R.keepN f) r
theorem jU(r:jL A X h σ σh):∀src:List (Option Nat),jL A X h (jc src σ) (L2.inner src σh)
 | []=>rfl
 |none::src=>⟨none,_,rfl,trivial,jU r src⟩
 |some j::src=>by
  refine⟨(σh[j]?).join,_,rfl,?_,jU r src⟩;show i8 A X h (σ[j]?).join _;cases hj:σ[j]? with
  |none=>trivial
  |some o=>cases o with
   |none=>trivial
   |some t=>
    obtain⟨w,e1,q⟩:=A7 r hj;rw[e1];exact q
theorem N9:∀{is:List Nat}{ts:List T}{ws:List V}{σ σ1:TS}{σh:List (Option V)},qBw is ts σ=some σ1->qN A X h ts ws->jL A X h σ σh->∃σh1,Qc is ws σh=some σh1/\jL A X h σ1 σh1
 | [],[],ws,σ,σ1,σh,e,r,rs=>by unfold qN at r;subst r;cases e;exact⟨σh,rfl,rs⟩
 | [],t::ts,ws,σ,σ1,σh,e,r,rs=>by cases e
 |i::is,[],ws,σ,σ1,σh,e,r,rs=>by cases e
 |i::is,t::ts,ws,σ,σ1,σh,e,r,rs=>by
  unfold qN at r;obtain⟨w,ws',rfl,a,b⟩:=r;exact N9 (is:=is) (show qBw is ts (σ.set i (some t))=some σ1 from e) b (zD i rs (show i8 A X h (some t) (some w) from a))
theorem store_ok{g:Tg}{t:T}{w:V}{σ1:TS}(e:qt g t σ=some σ1)(r:Rep A X h t w)(rs:jL A X h σ σh):∃σh1,store g w σh h=some σh1/\jL A X h σ1 σh1:=by
 cases g with
 |name i=>cases e;exact⟨σh.set i (some w),rfl,zD i rs (show i8 A X h (some t) (some w) from r)⟩
 |tup is=>
  cases t with
  |tup ts=>
   unfold Rep at r;obtain⟨a,vs,rfl,_,q,k⟩:=r;obtain⟨σh1,e1,r1⟩:=N9 (show qBw is ts σ=some σ1 from e) k rs;refine⟨σh1,?_,r1⟩;show (match qW h a with|some xs=>_|none=>_)=_;rw[show qW h a=some vs by unfold qW;rw[q]];exact e1
  |_=>cases e
theorem QG:∀(i:Nat) (ts:List T),(jR i ts).length=ts.length
 |_,[]=>rfl
 |i,t::ts=>by rw[jR,List.length_cons,List.length_cons,QG]
theorem Zu:∀(i j:Nat) (ts:List T),(jR i ts)[j]?=(ts[j]?).map λt=>T.tup [.v (.int ((i+j:Nat):Int)),t]
 |_,_,[]=>by simp[jR]
 |i,0,t::ts=>by simp[jR]
 |i,j+1,t::ts=>by
  rw[jR,List.getElem?_cons_succ,List.getElem?_cons_succ,Zu (i+1) j ts];rw[show i+1+j=i+(j+1) by omega]
inductive jg(A X:List Nat)(h:AH):Src->List T->jh->Prop
 |list (a f vs ts):a∉X->h[a]?=some (.lst f vs)->qN A X h ts vs->jg A X h (.list a) ts []
 |cell (n a vs ts):A[n]?=some a->h[a]?=some (.lst false vs)->qN A X h ts vs->jg A X h (.list a) ts [(n,ts)]
 |tupl (a vs ts):a∉X->h[a]?=some (.tup vs)->qN A X h ts vs->jg A X h (.tupl a) ts []
 |rng (lo n):jg A X h (.rng lo n) (zz lo n) []
 |enum (a ts d):jg A X h (.list a) ts d->jg A X h (.enum a) (jR 0 ts) d
 |zip (a b ts us d1 d2):jg A X h (.list a) ts d1->jg A X h (.list b) us d2->jg A X h (.zip a b) (List.zipWith (λx y=>T.tup [x,y]) ts us) (d1++d2)
theorem zm{d1 d2:jh}(e:qd (d1++d2) M=true):qd d1 M=true/\qd d2 M=true:=by
 unfold qd at e ⊢;rw[List.all_append,Bool.and_eq_true]at e;exact e
theorem Q7{s:Src}{ts:List T}{d:jh}(r:jg A X h s ts d)(hn:∀a o,a∉X->h[a]?=some o->h'[a]?=some o)(R:RelM gl A X h' M')(hd:qd d M'=true):jg A X h' s ts d:=by
 induction r with
 |list a f vs ts q1 q2 q3=>exact .list a f vs ts q1 (hn _ _ q1 q2) (qO (λ_ _ e=>e) (λa o x y=>⟨x,hn a o x y⟩) ts q3)
 |cell n a vs ts q1 q2 q3=>
  obtain⟨ts',vs',e1,e2,e3⟩:=R.at_ n a q1;unfold qd at hd;simp only[List.all_cons,List.all_nil,Bool.and_true]at hd;rw[e1]at hd;have:=jW _ _ hd;subst this;exact .cell n a vs' ts' q1 e2 e3
 |tupl a vs ts q1 q2 q3=>exact .tupl a vs ts q1 (hn _ _ q1 q2) (qO (λ_ _ e=>e) (λa o x y=>⟨x,hn a o x y⟩) ts q3)
 |rng lo n=>exact .rng lo n
 |enum a ts d _ i1=>exact .enum a ts d (i1 hd)
 |zip a b ts us d1 d2 _ _ i1 i2=>exact .zip a b ts us d1 d2 (i1 (zm hd).1) (i2 (zm hd).2)
theorem Qs{A' X':List Nat}{s:Src}{ts:List T}{d:jh}(r:jg A X h s ts d)(hn:∀a o,a∉X->h[a]?=some o->a∉X'/\h'[a]?=some o)(R:RelM gl A' X' h' M')(hd:qd d M'=true)(hA:∀(n:Nat) a,A[n]?=some a->A'[n]?=some a:=by exact λ_ _ e=>e):jg A' X' h' s ts d:=by
 induction r with
 |list a f vs ts q1 q2 q3=>exact .list a f vs ts (hn _ _ q1 q2).1 (hn _ _ q1 q2).2 (qO hA hn ts q3)
 |cell n a vs ts q1 q2 q3=>
  obtain⟨ts',vs',e1,e2,e3⟩:=R.at_ n a (hA _ _ q1);unfold qd at hd;simp only[List.all_cons,List.all_nil,Bool.and_true]at hd;rw[e1]at hd;have:=jW _ _ hd;subst this;exact .cell n a vs' ts' (hA _ _ q1) e2 e3
 |tupl a vs ts q1 q2 q3=>exact .tupl a vs ts (hn _ _ q1 q2).1 (hn _ _ q1 q2).2 (qO hA hn ts q3)
 |rng lo n=>exact .rng lo n
 |enum a ts d _ i1=>exact .enum a ts d (i1 hd)
 |zip a b ts us d1 d2 _ _ i1 i2=>exact .zip a b ts us d1 d2 (i1 (zm hd).1) (i2 (zm hd).2)
theorem qp{a:Nat}{ts:List T}{d:jh}(r:jg A X h (.list a) ts d):∃vs,qP h a=some vs/\qN A X h ts vs:=by
 cases r with
 |list _ f vs _ q1 q2 q3=>exact⟨vs,qV q2,q3⟩
 |cell n _ vs _ q1 q2 q3=>exact⟨vs,qV q2,q3⟩
theorem Jv{s:Src}{ts:List T}{d:jh}(r:jg A X h s ts d):P8 h s=some ts.length:=by
 cases r with
 |list a f vs ts q1 q2 q3=>show (qP h a).map _=_;rw[qV q2,Option.map_some,qA (reps_iff.mp q3)]
 |cell n a vs ts q1 q2 q3=>show (qP h a).map _=_;rw[qV q2,Option.map_some,qA (reps_iff.mp q3)]
 |tupl a vs ts q1 q2 q3=>show (qW h a).map _=_;rw[show qW h a=some vs by unfold qW;rw[q2],Option.map_some,qA (reps_iff.mp q3)]
 |rng lo n=>show some n=_;simp[zz]
 |enum a ts d r1=>
  obtain⟨vs,e1,k1⟩:=qp r1;show (qP h a).map _=_;rw[e1,Option.map_some,QG,qA (reps_iff.mp k1)]
 |zip a b ts us d1 d2 r1 r2=>
  obtain⟨vs,e1,k1⟩:=qp r1;obtain⟨ws,e2,k2⟩:=qp r2;show (match qP h a,qP h b with|some xs,some ys=>_|_,_=>_)=_;rw[e1,e2,List.length_zipWith,qA (reps_iff.mp k1),qA (reps_iff.mp k2)]
theorem Zg{s:Src}{ts:List T}{d:jh}(r:jg A X h s ts d):zy h ts.length s=true:=by
 cases r with
 |list a f vs ts q1 q2 q3=>show (match qP h a with|some xs=>_|none=>_)=_;rw[qV q2,qA (reps_iff.mp q3)];simp
 |cell n a vs ts q1 q2 q3=>show (match qP h a with|some xs=>_|none=>_)=_;rw[qV q2,qA (reps_iff.mp q3)];simp
 |tupl a vs ts q1 q2 q3=>show (match qW h a with|some xs=>_|none=>_)=_;rw[show qW h a=some vs by unfold qW;rw[q2],qA (reps_iff.mp q3)];simp
 |rng lo n=>show decide _=_;simp[zz]
 |enum a ts d r1=>
  obtain⟨vs,e1,k1⟩:=qp r1;show (match qP h a with|some xs=>_|none=>_)=_;rw[e1,QG,qA (reps_iff.mp k1)];simp
 |zip a b ts us d1 d2 r1 r2=>
  obtain⟨vs,e1,k1⟩:=qp r1;obtain⟨ws,e2,k2⟩:=qp r2;show (match qP h a,qP h b with|some xs,some ys=>_|_,_=>_)=_;rw[e1,e2,List.length_zipWith,qA (reps_iff.mp k1),qA (reps_iff.mp k2)];simp;omega
theorem Qb(R:RelM gl A X h M){s:Src}{ts:List T}{d:jh}(r:jg A X h s ts d){i:Nat}{t:T}(ei:ts[i]?=some t):
  ∃w e,qj h i s=some (w,h++e)/\Rep A X (h++e) t w:=by
 cases r with
 |list a f vs ts q1 q2 q3=>
  obtain⟨w,ew,q⟩:=qm (reps_iff.mp q3) ei;refine⟨w,[],?_,by rw[List.append_nil];exact q⟩;show (match qP h a with|some xs=>_|none=>_)=_;rw[qV q2];dsimp only;rw[ew,List.append_nil];rfl
 |cell n a vs ts q1 q2 q3=>
  obtain⟨w,ew,q⟩:=qm (reps_iff.mp q3) ei;refine⟨w,[],?_,by rw[List.append_nil];exact q⟩;show (match qP h a with|some xs=>_|none=>_)=_;rw[qV q2];dsimp only;rw[ew,List.append_nil];rfl
 |tupl a vs ts q1 q2 q3=>
  obtain⟨w,ew,q⟩:=qm (reps_iff.mp q3) ei;refine⟨w,[],?_,by rw[List.append_nil];exact q⟩;show (match qW h a with|some xs=>_|none=>_)=_;rw[show qW h a=some vs by unfold qW;rw[q2]];dsimp only;rw[ew,List.append_nil];rfl
 |rng lo n=>
  have hi:i<n:=by have:=(List.getElem?_eq_some_iff.mp ei).1;simpa [zz] using this
  refine⟨.int (lo+(i:Int)),[],?_,?_⟩
  ·show (if i<n then _ else _)=_;rw[if_pos hi,List.append_nil]
  ·have:t=.v (.int (lo+(i:Int))):=by
    simp only[zz,wK,wf hi,Option.map_some,Option.some.injEq]at ei;exact ei.symm
   rw[this];unfold Rep;exact⟨rfl,rfl⟩
 |enum a ts d r1=>
  obtain⟨vs,e1,k1⟩:=qp r1;rw[Zu]at ei;obtain⟨x,ex,rfl⟩:=Option.map_eq_some_iff.mp ei;obtain⟨v,ev,qv⟩:=qm (reps_iff.mp k1) ex;refine⟨.ref h.length,[.tup [.int (i:Int),v]],?_,?_⟩
  ·show (match qP h a with|some xs=>_|none=>_)=_;rw[e1];dsimp only;rw[ev];rfl
  ·have f:=Frm.app A h [O.tup [.int (i:Int),v]];unfold Rep;refine⟨_,[.int (i:Int),v],rfl,λz=>Nat.lt_irrefl _ (R.lt _ z),by simp,?_⟩;unfold qN;refine⟨.int (i:Int),[v],rfl,by unfold Rep;rw[Nat.zero_add];exact⟨rfl,rfl⟩,?_⟩;unfold qN;exact⟨v,[],rfl,R.keep f qv,by unfold qN;rfl⟩
 |zip a b ts us d1 d2 r1 r2=>
  obtain⟨vs,e1,k1⟩:=qp r1;obtain⟨ws,e2,k2⟩:=qp r2;rw[List.getElem?_zipWith]at ei;cases et:ts[i]? with
  |none=>rw[et]at ei;cases ei
  |some x=>
   cases eu:us[i]? with
   |none=>rw[et,eu]at ei;cases ei
   |some y=>
    rw[et,eu]at ei;cases ei;obtain⟨v,ev,qv⟩:=qm (reps_iff.mp k1) et;obtain⟨w,ew,qw⟩:=qm (reps_iff.mp k2) eu;refine⟨.ref h.length,[.tup [v,w]],?_,?_⟩
    ·show (match qP h a,qP h b with|some xs,some ys=>_|_,_=>_)=_;rw[e1,e2];dsimp only;rw[ev,ew]
    ·have f:=Frm.app A h [O.tup [v,w]];unfold Rep;refine⟨_,[v,w],rfl,λz=>Nat.lt_irrefl _ (R.lt _ z),by simp,?_⟩;unfold qN;refine⟨v,[w],rfl,R.keep f qv,?_⟩;unfold qN;exact⟨w,[],rfl,R.keep f qw,by unfold qN;rfl⟩
theorem Frs.ofD(R:RelM gl A X h M){kvs:List (Int×V)}(r:Rep A X (h++[O.ob (.dct kvs)]) (.ob (.dct kvs)) (.ref h.length)):Frs gl A X h.length (h++[O.ob (.dct kvs)]) M (.ob (.dct kvs)) (.ref h.length):=
 ⟨[],by unfold Rep at r;unfold FP;exact⟨r,rfl⟩,wu,λa ha=>by simp at ha,by rw[List.append_nil];exact R.up _,λ_ _=>⟨h.length,rfl,Nat.le_refl _,R.addX λa=>by simp only[wD,List.mem_singleton];grind⟩⟩
theorem RelM.setX(R:RelM gl A X h M){D:Nat}(hD:D∈X)(hA:D∉A)(o:O):RelM gl A X (h.set D o) M:=by
 have hn:∀a o',a∉X->h[a]?=some o'->a∉X/\(h.set D o)[a]?=some o':=λa o' x y=>⟨x,by rw[wI (by rintro rfl;exact x hD)];exact y⟩
 refine⟨R.len,R.nd,R.sub,λa ha=>by simpa using R.lt a ha,λn a e=>?_,λg t e=>zL (λ_ _ e=>e) hn t (R.glo g t e)⟩;obtain⟨ts,vs,e1,e2,e3⟩:=R.at_ n a e;exact⟨ts,vs,e1,by rw[wI (by rintro rfl;exact hA (List.mem_of_getElem? e))];exact e2,qO (λ_ _ e=>e) hn ts e3⟩
theorem Sim.bindW{α β α2 β2:Type}{X':List Nat}{h1:AH}{Q:α->β->AH->Mem->Prop}{Q2:α2->β2->AH->Mem->Prop}{r:PR (α×Mem)}{rh:Res (β×AH)}{f:α×Mem->PR (α2×Mem)}{g:β×AH->Res (β2×AH)}
  (hX:∀a∈X,a∈X') (hA:∀a∈A,a∈X) (f0:Frm A h1 h)
  (s:Sim gl A X' h Q r rh) (k:∀x M' y h',Frm A h h'->RelM gl A X' h' M'->Q x y h' M'->Sim gl A X h1 Q2 (f (x,M')) (g (y,h'))):Sim gl A X h1 Q2 (r.bind f) (rh.bind g):=by
 cases r with
 |ok p=>
  obtain⟨x,M'⟩:=p;obtain⟨y,h',rfl,f1,R1,q⟩:=s;exact k x M' y h' f1 R1 q
 |exc c M'=>
  obtain⟨h',rfl,f1,R1⟩:=s;exact⟨h',rfl,f0.trans f1,R1.weak hX hA⟩
 |stuck=>trivial
mutual
theorem qBQ{X X':List Nat}{h:AH}:∀(t:T){w:V}{f g:List Nat},FP X h t w f->FP X' h t w g->f=g
 | .v x,w,f,g,p,q=>by unfold FP at p q;rw[p.2,q.2]
 | .cell n,w,f,g,p,q=>by unfold FP at p;exact p.elim
 | .fz ts,w,f,g,p,q=>by unfold FP at p;exact p.elim
 | .ob o,w,f,g,p,q=>by unfold FP at p q;rw[p.2,q.2]
 | .lst ts,w,f,g,p,q=>by
  unfold FP at p q;obtain⟨a,vs,f',rfl,_,e1,k1,rfl⟩:=p;obtain⟨b,us,g',e,_,e2,k2,rfl⟩:=q;cases e;rw[e1]at e2;cases e2;rw[Qy ts k1 k2]
 | .tup ts,w,f,g,p,q=>by
  unfold FP at p q;obtain⟨a,vs,rfl,_,e1,k1⟩:=p;obtain⟨b,us,e,_,e2,k2⟩:=q;cases e;rw[e1]at e2;cases e2;exact Qy ts k1 k2
theorem Qy{X X':List Nat}{h:AH}:∀(ts:List T){ws:List V}{f g:List Nat},FPs X h ts ws f->FPs X' h ts ws g->f=g
 | [],w,f,g,p,q=>by unfold FPs at p q;rw[p.2,q.2]
 |t::ts,w,f,g,p,q=>by
  unfold FPs at p q;obtain⟨v,vs,f1,f2,rfl,a,b,rfl⟩:=p;obtain⟨v',vs',g1,g2,e,a',b',rfl⟩:=q;cases e;rw[qBQ t a a',Qy ts b b']
end
theorem Jn:∀{ts:List T}{ws:List V}{fp f:List Nat}{t:T}{w:V},FPs X h ts ws fp->FP X h t w f->FPs X h (ts++[t]) (ws++[w]) (fp++f)
 | [],ws,fp,f,t,w,p,q=>by
  unfold FPs at p;obtain⟨rfl,rfl⟩:=p;show FPs X h [t] [w] f;unfold FPs;exact⟨w,[],f,[],rfl,q,by unfold FPs;exact⟨rfl,rfl⟩,by simp⟩
 |s::ts,ws,fp,f,t,w,p,q=>by
  unfold FPs at p;obtain⟨v,vs,f1,f2,rfl,a,b,rfl⟩:=p;show FPs X h (s::(ts++[t])) (v::(vs++[w])) _;unfold FPs;exact⟨v,vs++[w],f1,f2++f,rfl,a,Jn b q,by rw[wM]⟩
end
section
variable{gl:List T}{A X:List Nat}
theorem Qu{s:Src}{its:List T}{d:jh}{g:Tg}{c:TS->Mem->PR (Bool×Mem)}{c':List (Option V)->AH->Res (Bool×AH)}{e:TS->Mem->PR (TB×Mem)}{e':List (Option V)->AH->RV}{D:Nat}{h1:AH}
  (hc:∀X h M σ σh,RelM gl A X h M->jL A X h σ σh->Sim gl A X h (λb b' _ _=>b=b') (c σ M) (c' σh h))
  (he:∀X h M σ σh,RelM gl A X h M->jL A X h σ σh->Sim gl A X h (QE gl A X h.length) (e σ M) (e' σh h))
  (hD:h1.length<=D) (hDX:D∉X) (hA:∀a∈A,a∈X):∀(r:List T) (i:Nat) (ys:List T) (ws:List V) (f:Bool) (fp:List Nat) (Y:List Nat) (σ:TS) (σh:List (Option V)) (M:Mem) (h:AH),
   its.drop i=r->i<=its.length->Y=D::X++fp->Frm A h1 h->RelM gl A Y h M->jg A Y h s its d->h[D]?=some (.lst false ws)->qN A (D::X) h ys ws ->
   (f=true->FPs (D::X) h ys ws fp/\fp.Nodup/\∀a∈fp,h1.length<=a)->jL A Y h σ σh ->
   Sim gl A X h1 (QE gl A X h1.length) (qR d g c e r ys f σ M) (jw s g c' e' D r.length i ws σh h)
 | [],i,ys,ws,f,fp,Y,σ,σh,M,h,hr,hi,hY,fm,R,sr,eD,ry,hf,rs=>by
  have hi':i=its.length:=by
   have:=List.drop_eq_nil_iff.mp hr;omega
  subst hi';have hX:∀a∈X,a∈D::X:=λa z=>List.mem_cons_of_mem _ z;have hXY:∀a∈X,a∈Y:=λa z=>by rw[hY];simp[z]
  have hn:∀a o,a∉D::X->h[a]?=some o->a∉X/\h[a]?=some o:=λa o x y=>⟨λz=>x (hX _ z),y⟩
  refine⟨.ref D,h,?_,fm,R.weak hXY hA,?_,λe=>?_⟩
  ·show (if zy h its.length s then _ else _)=_;rw[if_pos (Zg sr)]
  ·show Rep A X h (.lst ys) _;unfold Rep;exact⟨D,ws,rfl,hDX,eD,qO (λ_ _ e=>e) hn ys ry⟩
  ·obtain⟨p,nd,l⟩:=hf e;refine⟨fp++[D],?_,?_,?_,?_⟩
   ·show FP X h (.lst ys) _ _;unfold FP;exact⟨D,ws,fp,rfl,hDX,eD,zV hn ys p,rfl⟩
   ·rw[wZ];refine⟨nd,by simp,?_⟩;rintro a ha b hb rfl;simp at hb;exact(jQ ys p a ha).1 (by rw[hb];exact List.mem_cons_self ..)
   ·intro a ha;rcases wD.mp ha with z|z
    ·exact l a z
    ·simp at z;omega
   ·refine⟨R.weak (λa z=>?_) λa z=>wE _ (hA a z),New.lst⟩;rw[hY];simp only[wD,List.mem_cons,List.mem_singleton]at z ⊢
    grind
 |x::r,i,ys,ws,f,fp,Y,σ,σh,M,h,hr,hi,hY,fm,R,sr,eD,ry,hf,rs=>by
  have hXY:∀a∈X,a∈Y:=λa z=>by rw[hY];simp[z]
  have hDY:D∈Y:=by rw[hY];simp
  have hDXY:∀a∈D::X,a∈Y:=λa z=>by rw[hY];exact wE _ z
  have hDA:D∉A:=λz=>hDX (hA D z);have ex:its[i]?=some x:=by
   have:(its.drop i)[0]?=some x:=by rw[hr];rfl
   rwa [List.getElem?_drop,Nat.add_zero]at this
  have hi2:i+1<=its.length:=(List.getElem?_eq_some_iff.mp ex).1;have hr2:its.drop (i+1)=r:=by
   rw[<-List.drop_drop,hr];rfl
  obtain⟨w,ext,ey,rx⟩:=Qb R sr ex;have fy:Frm A h (h++ext):=Frm.app A h ext;rw[List.length_cons];unfold qR jw;rw[ey];dsimp only;cases es:qt g x σ with
  |none=>exact Sim.stuck
  |some σ1=>
   obtain⟨σh1,esh,rs1⟩:=store_ok es rx (R.keepS fy rs);rw[esh];dsimp only;refine Sim.bindW hXY hA (fm.trans fy) (hc _ _ _ _ _ (R.up ext) rs1) ?_;rintro b M2 b' h2 f2 R2 rfl;have k2:Frm A h h2:=fy.trans f2;have eD2:h2[D]?=some (.lst false ws):=(k2.2 D (qM eD) hDA).trans eD;have kN:∀{h':AH},Frm A h h'->∀a o,a∉D::X->h[a]?=some o->a∉D::X/\h'[a]?=some o:=λf' a o x y=>⟨x,(f'.2 a (qM y) λz=>x (List.mem_cons_of_mem _ (hA _ z))).trans y⟩
   cases b with
   |true=>
    simp only[if_true];refine Sim.bindW hXY hA (fm.trans k2) (he _ _ _ _ _ R2 ((R.up ext).keepS f2 rs1)) ?_;intro y M3 w3 h3 f3 R3 q3;have k3:Frm A h h3:=k2.trans f3;have eD3:h3[D]?=some (.lst false ws):=(k3.2 D (qM eD) hDA).trans eD;have lw:ys.length=ws.length:=qA (reps_iff.mp ry);dsimp only;by_cases hl:ys.length<lim/\qd d M3=true
    ·rw[if_pos hl,if_pos ⟨eD3,by rw[<-lw];exact hl.1⟩];have hs:∀(Z:List Nat),D∈Z->∀a o,a∉Z->h3[a]?=some o->a∉Z/\(h3.set D (.lst false (ws++[w3])))[a]?=some o:=λZ hZ a o x y=>⟨x,by rw[wI (by rintro rfl;exact x hZ)];exact y⟩
     have hnD:∀a o,a∉D::X->h[a]?=some o->a∉D::X/\(h3.set D (.lst false (ws++[w3])))[a]?=some o:=λa o x y=>hs _ (List.mem_cons_self ..) a o x (kN k3 a o x y).2;have ry4:qN A (D::X) (h3.set D (.lst false (ws++[w3]))) (ys++[y.1]) (ws++[w3]):=
      reps_iff.mpr (ql (reps_iff.mp (qO (λ_ _ e=>e) hnD ys ry)) ⟨w3,[],rfl,zL (λ_ _ e=>e) (λa o x y=>hs _ (List.mem_cons_self ..) a o x y) _ (zL (λ_ _ e=>e) (λa o x y=>⟨λz=>x (hDXY _ z),y⟩) _ q3.1),rfl⟩)
     obtain⟨fp2,hp2,R3',hlt2⟩:∃fp2:List Nat,(y.2=true->FP Y h3 y.1 w3 fp2/\fp2.Nodup)/\RelM gl A (Y++fp2) h3 M3/\∀a∈fp2,h2.length<=a:=by
      cases hy2:y.2 with
      |true=>
       obtain⟨fp2,a,b,c,d,_⟩:=q3.2 hy2;exact⟨fp2,λ_=>⟨a,b⟩,d,c⟩
      |false=>exact⟨[],(λz=>by cases z),by rw[List.append_nil];exact R3,λa ha=>by simp at ha⟩
     have old:∀{Z:List Nat}(_:∀a∈Y,a∈Z) (a:Nat) o,a∉Y->h2[a]?=some o->a∉Y++fp2:=λ_ a o x y=>by
      rw[wD];rintro(z|z)
      ·exact x z
      ·have:=hlt2 a z;have:=qM y;omega
     have R4:=R3'.setX (wE _ hDY) hDA (.lst false (ws++[w3]));have hnY:∀a o,a∉Y->h[a]?=some o->a∉Y++fp2/\(h3.set D (.lst false (ws++[w3])))[a]?=some o:=λa o x y=>⟨old (λ_ z=>z) a o x (R.keepN k2 a o x y).2,(hs Y hDY a o x (R.keepN k3 a o x y).2).2⟩
     have hn2:∀a o,a∉Y->h2[a]?=some o->a∉Y++fp2/\(h3.set D (.lst false (ws++[w3])))[a]?=some o:=λa o x y=>⟨old (λ_ z=>z) a o x y,(hs Y hDY a o x (R2.keepN f3 a o x y).2).2⟩
     refine Qu hc he hD hDX hA r (i+1) (ys++[y.1]) (ws++[w3]) (f&&y.2) (fp++fp2) (Y++fp2) σ1 σh1 M3 _ hr2 hi2 (by rw[hY,wM]) ((fm.trans k3).set (.inr hD) _) R4 ?_ ?_ ry4 ?_ ?_
     ·exact Qs sr hnY R4 hl.2
     ·rw[wN (qM eD3)]
     ·intro ef;rw[Bool.and_eq_true]at ef;obtain⟨p1,nd1,l1⟩:=hf ef.1;obtain⟨p2,nd2⟩:=hp2 ef.2;refine⟨Jn (zV hnD ys p1) (Qg (λa o x y=>hs _ (List.mem_cons_self ..) a o x y) _ (Qg (λa o x y=>⟨λz=>x (hDXY _ z),y⟩) _ p2)),?_,?_⟩
      ·rw[wZ];refine⟨nd1,nd2,?_⟩;rintro a ha b hb rfl;exact(C9 y.1 p2 a hb).1 (by rw[hY];exact wH _ ha)
      ·intro a ha;rcases wD.mp ha with z|z
       ·exact l1 a z
       ·have:=hlt2 a z;have:=(fm.trans k2).1;omega
     ·exact zQ (λ_ _ e=>e) hn2 ((R.up ext).keepS f2 rs1)
    ·rw[if_neg hl];exact Sim.stuck
   |false=>
    dsimp only;simp only[Bool.false_eq_true,if_false];by_cases hl:qd d M2=true
    ·rw[if_pos hl,if_pos eD2];exact Qu hc he hD hDX hA r (i+1) ys ws f fp Y σ1 σh1 M2 h2 hr2 hi2 hY (fm.trans k2) R2 (Q7 sr (λa o x y=>(R.keepN k2 a o x y).2) R2 hl) eD2 (qO (λ_ _ e=>e) (kN k2) ys ry)
      (λef=>by obtain⟨a,b,c⟩:=hf ef;exact⟨zV (kN k2) ys a,b,c⟩) ((R.up ext).keepS f2 rs1)
    ·rw[if_neg hl];exact Sim.stuck
end
section
variable{gl:List T}{A X:List Nat}{h h':AH}{M M':Mem}
theorem W2{X':List Nat}{s:Src}{ts:List T}{d:jh}(r:jg A X h s ts d)(hn:∀a o,a∉X->h[a]?=some o->a∉X'/\h'[a]?=some o)(hc:∀(n:Nat) a o,A[n]?=some a->h[a]?=some o->h'[a]?=some o):jg A X' h' s ts d:=by
 induction r with
 |list a f vs ts q1 q2 q3=>exact .list a f vs ts (hn _ _ q1 q2).1 (hn _ _ q1 q2).2 (qO (λ_ _ e=>e) hn ts q3)
 |cell n a vs ts q1 q2 q3=>exact .cell n a vs ts q1 (hc n a _ q1 q2) (qO (λ_ _ e=>e) hn ts q3)
 |tupl a vs ts q1 q2 q3=>exact .tupl a vs ts (hn _ _ q1 q2).1 (hn _ _ q1 q2).2 (qO (λ_ _ e=>e) hn ts q3)
 |rng lo n=>exact .rng lo n
 |enum a ts d _ i1=>exact .enum a ts d i1
 |zip a b ts us d1 d2 _ _ i1 i2=>exact .zip a b ts us d1 d2 i1 i2
theorem F4{n:Nat}{r:PR (TB×Mem)}{rh:RV}(s:Sim gl A X h (QE gl A X n) r rh):Sim gl A X h (λb b' _ _=>b=b') (pB r) (asB rh):=by
 refine Sim.bind s ?_;intro x M1 w h1 f1 R1 q1;obtain⟨t,fr⟩:=x;dsimp only;split
 ·rename_i b;cases zO q1.1;exact⟨_,h1,rfl,Frm.refl A h1,R1,rfl⟩
 ·exact Sim.stuck
theorem QS{A X:List Nat}{h:AH}:∀{xs:List V},xs.all flat=true->qN A X h (xs.map .v) xs
 | [],_=>by show qN A X h [] [];unfold qN;rfl
 |x::xs,f=>by
  rw[List.all_cons,Bool.and_eq_true]at f;show qN A X h (.v x::xs.map .v) _;unfold qN;exact⟨x,xs,rfl,by unfold Rep;exact⟨rfl,f.1⟩,QS f.2⟩
theorem F3{α β:Type}{R:α->β->Prop}{xs:List α}{ys:List β}(k:Nat)(h:zu R xs ys):zu R (xs.eraseIdx k) (ys.eraseIdx k):=by
 rw[wV,wV];exact ql (zN _ h) (jG _ h)
theorem ZL{α β:Type}{R:α->β->Prop}{xs:List α}{ys:List β}(h:zu R xs ys):zu R xs.dropLast ys.dropLast:=by
 rw[wn,wn,<-qA h];exact zN _ h
theorem C6{α β:Type}{R:α->β->Prop}:∀{xs:List α}{ys:List β},zu R xs ys->zu R xs.reverse ys.reverse
 | [],_,h=>by cases h;rfl
 |x::xs,_,⟨v,vs,rfl,r,h⟩=>by
  rw[wc,wc];exact ql (C6 h) ⟨v,[],rfl,r,rfl⟩
theorem U1(R:RelM gl A X h M){m:Mt}{n p:Nat}{ts:List T}{ws:List V}(ep:A[n]?=some p)(rs:qN A X h ts ws):Sim gl A X h (QE gl A X h.length) (PR.ofO (JC m n ts M)) (zt m p ws h):=by
 obtain⟨ts2,vs2,g1,g2,g3⟩:=R.at_ n p ep;have hm:qc h p=some vs2:=by unfold qc;rw[g2]
 have l:=qA (reps_iff.mp g3);cases em:JC m n ts M with
 |none=>exact Sim.stuck
 |some r=>
  unfold JC at em;split at em
  ·unfold qN at rs;subst rs;rw[g1]at em;dsimp only[Option.bind_some]at em;obtain⟨y,ey,rfl⟩:=Option.map_eq_some_iff.mp em;obtain⟨w,ew,rw2⟩:=qm (reps_iff.mp g3) ey;show Sim _ _ _ _ _ _ (match qc h p with|some xs=>_|none=>_);rw[hm];dsimp only;rw[<-l,ew];obtain⟨R4,f4⟩:=R.put ep (reps_iff.mpr (ZL (reps_iff.mp g3)));have r:=R.keep f4 rw2;exact⟨w,_,rfl,f4,R4,r,λe=>Frs.of_lf R4 r e⟩
  ·rename_i i;obtain⟨w,rfl,a⟩:=QZ rs;cases zO a;rw[g1]at em;dsimp only[Option.bind_some]at em;split at em
   ·rename_i hl;obtain⟨k,ek,em⟩:=Option.bind_eq_some_iff.mp em;obtain⟨y,ey,rfl⟩:=Option.map_eq_some_iff.mp em;obtain⟨w,ew,rw2⟩:=qm (reps_iff.mp g3) ey;show Sim _ _ _ _ _ _ (match qc h p with|some xs=>_|none=>_);rw[hm];dsimp only;rw[<-l,if_pos hl,ek];dsimp only;rw[ew];obtain⟨R4,f4⟩:=R.put ep (reps_iff.mpr (F3 k (reps_iff.mp g3)));have r:=R.keep f4 rw2;exact⟨w,_,rfl,f4,R4,r,λe=>Frs.of_lf R4 r e⟩
   ·cases em
  ·unfold qN at rs;subst rs;rw[g1]at em;cases em;show Sim _ _ _ _ _ _ (match qc h p with|some xs=>_|none=>_);rw[hm];obtain⟨R4,f4⟩:=R.put ep (reps_iff.mpr (C6 (reps_iff.mp g3)));have r:Rep A X (h.set p (.lst false vs2.reverse)) (.v .non) .non:=by unfold Rep;exact⟨rfl,rfl⟩
   exact⟨_,_,rfl,f4,R4,r,λe=>Frs.of_lf R4 r e⟩
  ·unfold qN at rs;subst rs;rw[g1]at em;cases em;show Sim _ _ _ _ _ _ (match qc h p with|some xs=>_|none=>_);rw[hm];obtain⟨R4,f4⟩:=R.put (ts:=[]) (vs:=[]) ep (by unfold qN;rfl);have r:Rep A X (h.set p (.lst false [])) (.v .non) .non:=by unfold Rep;exact⟨rfl,rfl⟩
   exact⟨_,_,rfl,f4,R4,r,λe=>Frs.of_lf R4 r e⟩
  ·rename_i t;obtain⟨w,rfl,a⟩:=QZ rs;rw[g1]at em;dsimp only[Option.bind_some]at em;obtain⟨ys,ey,em⟩:=Option.bind_eq_some_iff.mp em;split at em
   ·rename_i hc;cases em;obtain⟨q,us,rfl,m2,k2⟩:=D3 R a ey;have hne:p≠q:=by
     rintro rfl;cases t with
     |cell k=>
      unfold Rep at a;obtain⟨a',ea,e⟩:=a;cases e;have:n=k:=(wt (List.getElem?_eq_some_iff.mp ep).1 R.nd).mp (ep.trans ea.symm);have hc1:=hc.1;unfold T.isC at hc1;simp at hc1;exact hc1 this.symm
     |lst xs=>unfold Rep at a;obtain⟨a',vs',e,z,_⟩:=a;cases e;exact z (R.sub _ (List.mem_of_getElem? ep))
     |_=>cases ey
    show Sim _ _ _ _ _ _ (match qc h p with|some xs=>_|none=>_);rw[hm];dsimp only;rw[m2];dsimp only;rw[if_pos ⟨hne,by rw[<-l,<-qA (reps_iff.mp k2)];exact hc.2⟩];obtain⟨R4,f4⟩:=R.put ep (reps_iff.mpr (ql (reps_iff.mp g3) (reps_iff.mp k2)));have r:Rep A X (h.set p (.lst false (vs2++us))) (.v .non) .non:=by unfold Rep;exact⟨rfl,rfl⟩
    exact⟨_,_,rfl,f4,R4,r,λe=>Frs.of_lf R4 r e⟩
   ·cases em
  ·rename_i i t;unfold qN at rs;obtain⟨w1,wr,rfl,a1,rs⟩:=rs;obtain⟨w2,rfl,a2⟩:=QZ rs;cases zO a1;rw[g1]at em;dsimp only[Option.bind_some]at em;split at em
   ·rename_i hc;cases em;show Sim _ _ _ _ _ _ (match qc h p with|some xs=>_|none=>_);rw[hm];dsimp only;rw[if_pos (by rw[<-l];exact hc)];obtain⟨R4,f4⟩:=R.put ep (reps_iff.mpr (ql (zN i.toNat (reps_iff.mp g3)) (show zu (Rep A X h) (t::ts2.drop i.toNat) (w2::vs2.drop i.toNat) from⟨_,_,rfl,a2,jG i.toNat (reps_iff.mp g3)⟩)));have r:Rep A X (h.set p (.lst false (vs2.take i.toNat++w2::vs2.drop i.toNat))) (.v .non) .non:=by unfold Rep;exact⟨rfl,rfl⟩
    exact⟨_,_,rfl,f4,R4,r,λe=>Frs.of_lf R4 r e⟩
   ·cases em
  ·cases em
theorem m9(R:RelM gl A X h M){t:T}{w:V}{s:List T×jh}(r:Rep A X h t w)(e:ZR M t=some s):∃p sh,w=.ref p/\(match h[p]? with|some (.lst _ _)=>Res.ok (Src.list p,h)|some (.tup _)=>.ok (.tupl p,h)|_=>.stuck)=.ok (sh,h)/\jg A X h sh s.1 s.2:=by
 cases t with
 |v x=>cases e
 |cell n=>
  unfold Rep at r;obtain⟨a,ea,rfl⟩:=r;obtain⟨ts,vs,e1,e2,e3⟩:=R.at_ n a ea;unfold ZR at e;dsimp only at e;rw[e1]at e;cases e;exact⟨a,_,rfl,by rw[e2],.cell n a vs ts ea e2 e3⟩
 |fz xs=>unfold Rep at r;obtain⟨a,vs,rfl,q,k,z⟩:=r;cases e;exact⟨a,_,rfl,by rw[k],.list a true vs xs q k z⟩
 |lst xs=>unfold Rep at r;obtain⟨a,vs,rfl,q,k,z⟩:=r;cases e;exact⟨a,_,rfl,by rw[k],.list a false vs xs q k z⟩
 |tup xs=>unfold Rep at r;obtain⟨a,vs,rfl,q,k,z⟩:=r;cases e;exact⟨a,_,rfl,by rw[k],.tupl a vs xs q k z⟩
 |ob o=>cases e
theorem JX(R:RelM gl A X h M){t:T}{w:V}{s:List T×jh}(r:Rep A X h t w)(e:D9 M t=some s):∃p vs,w=.ref p/\qP h p=some vs/\jg A X h (.list p) s.1 s.2:=by
 cases t with
 |v x=>cases e
 |cell n=>
  unfold Rep at r;obtain⟨a,ea,rfl⟩:=r;obtain⟨ts,vs,e1,e2,e3⟩:=R.at_ n a ea;unfold D9 at e;dsimp only at e;rw[e1]at e;cases e;exact⟨a,_,rfl,qV e2,.cell n a vs ts ea e2 e3⟩
 |fz xs=>unfold Rep at r;obtain⟨a,vs,rfl,q,k,z⟩:=r;cases e;exact⟨a,_,rfl,qV k,.list a true vs xs q k z⟩
 |lst xs=>unfold Rep at r;obtain⟨a,vs,rfl,q,k,z⟩:=r;cases e;exact⟨a,_,rfl,qV k,.list a false vs xs q k z⟩
 |tup xs=>cases e
 |ob o=>cases e
theorem QEs.len{n:Nat}{xs:List TB}{ws:List V}(q:QEs gl A X n xs ws h M):xs.length=ws.length:=by
 have:=qA (reps_iff.mp q.1);simpa using this
end
section
variable{gl:List T}{P:Nat->List T->Mem->PR (TB×Mem)}{F:Nat->List V->AH->RV}
variable (hF:∀f ts ws A X h M,RelM gl A X h M->qN A X h ts ws->Sim gl A X h (QE gl A X h.length) (P f ts M) (F f ws h))
include hF
mutual
theorem qY:∀(e:E) (A X:List Nat) (h:AH) (M:Mem) (σ:TS) (σh:List (Option V)),RelM gl A X h M->jL A X h σ σh->Sim gl A X h (QE gl A X h.length) (pe gl P e σ M) (ev F e σh h)
 | .var i,A,X,h,M,σ,σh,R,rs=>by
  rw[pe,ev];dsimp only;split
  ·rename_i t e;obtain⟨w,ew,r⟩:=A7 rs e;rw[ew];exact Jb R r
  ·exact Sim.stuck
 | .dnew,A,X,h,M,σ,σh,R,rs=>by
  unfold pe ev;have r:Rep A X (h++[O.ob (.dct [])]) (.ob (.dct [])) (.ref h.length):=by
   unfold Rep;exact⟨h.length,rfl,λz=>by have:=R.lt _ z;omega,by simp⟩
  exact⟨_,_,rfl,Frm.app A h _,R.up _,r,λ_=>Frs.ofD R r⟩
 | .cst v,A,X,h,M,σ,σh,R,rs=>by
  rw[pe,ev];dsimp only;split
  ·rename_i e;exact qG R e
  ·exact Sim.stuck
 | .glob g,A,X,h,M,σ,σh,R,rs=>by
  rw[pe,ev];dsimp only;split
  ·rename_i t e;exact Jb R (R.glo g t e)
  ·exact Sim.stuck
 | .bin op a b,A,X,h,M,σ,σh,R,rs=>by
  rw[pe,ev];dsimp only;refine Sim.bind (qY a A X h M σ σh R rs) ?_;intro x M1 v h1 f1 R1 q1;dsimp only;refine Sim.bind (qY b A X h1 M1 σ σh R1 (R.keepS f1 rs)) ?_;intro y M2 w h2 f2 R2 q2;dsimp only;exact Sim.ofO λr er=>(qAP R2 er (R1.keep f2 q1.1) q2.1).le (Nat.le_trans f1.1 f2.1)
 | .neg a,A,X,h,M,σ,σh,R,rs=>by
  rw[pe,ev];dsimp only;refine Sim.bind (qY a A X h M σ σh R rs) ?_;intro x M1 v h1 f1 R1 q1;dsimp only;obtain⟨t,fr⟩:=x;dsimp only;split
  ·cases zO q1.1;exact qG R1 rfl
  ·exact Sim.stuck
 | .cmp op a b,A,X,h,M,σ,σh,R,rs=>by
  rw[pe,ev];dsimp only;refine Sim.bind (qY a A X h M σ σh R rs) ?_;intro x M1 v h1 f1 R1 q1;dsimp only;refine Sim.bind (qY b A X h1 M1 σ σh R1 (R.keepS f1 rs)) ?_;intro y M2 w h2 f2 R2 q2;dsimp only;refine Sim.ofO λr er=>?_;unfold G5;rw[ZO R2 (R1.keep f2 q1.1) q2.1 er];exact qG R2 rfl
 | .cmp2 o1 o2 a b c,A,X,h,M,σ,σh,R,rs=>by
  rw[pe,ev];dsimp only;refine Sim.bind (qY a A X h M σ σh R rs) ?_;intro x M1 v h1 f1 R1 q1;dsimp only;refine Sim.bind (qY b A X h1 M1 σ σh R1 (R.keepS f1 rs)) ?_;intro y M2 w h2 f2 R2 q2;dsimp only;refine Sim.ofO λr er=>?_;rw[ZO R2 (R1.keep f2 q1.1) q2.1 er];cases r with
  |true=>
   simp only[if_true];refine Sim.bind (qY c A X h2 M2 σ σh R2 (R1.keepS f2 (R.keepS f1 rs))) ?_;intro z M3 u h3 f3 R3 q3;dsimp only;refine Sim.ofO λr er=>?_;unfold G5;rw[ZO R3 (R2.keep f3 q2.1) q3.1 er];exact qG R3 rfl
  |false=>exact qG R2 rfl
 | .and a b,A,X,h,M,σ,σh,R,rs=>by
  rw[pe,ev];dsimp only;refine Sim.bind (F4 (qY a A X h M σ σh R rs)) ?_;rintro x M1 v h1 f1 R1 rfl;dsimp only;cases x with
  |true=>simp only[if_true];exact(qY b A X h1 M1 σ σh R1 (R.keepS f1 rs)).le f1.1
  |false=>exact qG R1 rfl
 | .or a b,A,X,h,M,σ,σh,R,rs=>by
  rw[pe,ev];dsimp only;refine Sim.bind (F4 (qY a A X h M σ σh R rs)) ?_;rintro x M1 v h1 f1 R1 rfl;dsimp only;cases x with
  |false=>simp only[Bool.false_eq_true,if_false];exact(qY b A X h1 M1 σ σh R1 (R.keepS f1 rs)).le f1.1
  |true=>exact qG R1 rfl
 | .not a,A,X,h,M,σ,σh,R,rs=>by
  rw[pe,ev];dsimp only;refine Sim.bind (F4 (qY a A X h M σ σh R rs)) ?_;rintro x M1 v h1 f1 R1 rfl;dsimp only;exact qG R1 rfl
 | .ite c a b,A,X,h,M,σ,σh,R,rs=>by
  rw[pe,ev];dsimp only;refine Sim.bind (F4 (qY c A X h M σ σh R rs)) ?_;rintro x M1 v h1 f1 R1 rfl;dsimp only;cases x with
  |true=>simp only[if_true];exact(qY a A X h1 M1 σ σh R1 (R.keepS f1 rs)).le f1.1
  |false=>simp only[Bool.false_eq_true,if_false];exact(qY b A X h1 M1 σ σh R1 (R.keepS f1 rs)).le f1.1
 | .call f as,A,X,h,M,σ,σh,R,rs=>by
  rw[pe,ev];dsimp only;refine Sim.bind (zU as A X h M σ σh R rs) ?_;intro x M1 v h1 f1 R1 q1;dsimp only;exact(hF f _ _ A X h1 M1 R1 q1.1).nx.le f1.1
 | .blt f as,A,X,h,M,σ,σh,R,rs=>by
  rw[pe,ev];dsimp only;refine Sim.bind (zU as A X h M σ σh R rs) ?_;intro x M1 v h1 f1 R1 q1;dsimp only;exact Sim.ofO λr er=>(w6 R1 q1.1 er).le f1.1
 | .isi a ts,A,X,h,M,σ,σh,R,rs=>by
  rw[pe,ev];dsimp only;refine Sim.bind (qY a A X h M σ σh R rs) ?_;intro x M1 v h1 f1 R1 q1;dsimp only;refine Sim.ofO λr er=>?_;rw[U7 R1 q1.1 er];exact qG R1 rfl
 | .idx a b,A,X,h,M,σ,σh,R,rs=>by
  rw[pe,ev];dsimp only;refine Sim.bind (qY a A X h M σ σh R rs) ?_;intro x M1 v h1 f1 R1 q1;dsimp only;refine Sim.bind (qY b A X h1 M1 σ σh R1 (R.keepS f1 rs)) ?_;intro y M2 w h2 f2 R2 q2;dsimp only;refine Sim.ofO λr er=>?_;obtain⟨ty,fy⟩:=y;unfold Qe at er;dsimp only at er;split at er
  ·rename_i i;cases zO q2.1;obtain⟨xs,e1,er⟩:=Option.bind_eq_some_iff.mp er;obtain⟨j,e2,er⟩:=Option.bind_eq_some_iff.mp er;obtain⟨t,e3,rfl⟩:=Option.map_eq_some_iff.mp er;obtain⟨p,vs,rfl,k1,k2⟩:=C3 R2 (R1.keep f2 q1.1) e1;obtain⟨u,e4,k3⟩:=qm (reps_iff.mp k2) e3;dsimp only;rw[k1];dsimp only;rw[<-qA (reps_iff.mp k2),e2];dsimp only[Option.bind_some];rw[e4];exact Jb R2 k3
  ·cases er
 | .sl a lo hi,A,X,h,M,σ,σh,R,rs=>by
  rw[pe,ev];dsimp only;refine Sim.bind (qY a A X h M σ σh R rs) ?_;intro x M1 v h1 f1 R1 q1;dsimp only;refine Sim.bind (zU lo A X h1 M1 σ σh R1 (R.keepS f1 rs)) ?_;intro y M2 w h2 f2 R2 q2;dsimp only;refine Sim.bind (zU hi A X h2 M2 σ σh R2 (R1.keepS f2 (R.keepS f1 rs))) ?_;intro z M3 u h3 f3 R3 q3;dsimp only;refine Sim.ofO λxs ex=>Sim.ofO λl el=>Sim.ofO λm em=>?_;rw[Ja (R2.keeps f3 q2.1) el,Ja q3.1 em];have rp:=R2.keep f3 (R1.keep f2 q1.1);refine Sim.ofO λr er=>?_;refine Sim.le ?_ (Nat.le_trans f1.1 (Nat.le_trans f2.1 f3.1));obtain⟨x1,x2⟩:=x;dsimp only at ex er rp ⊢;cases x1 with
  |v x=>cases ex
  |ob o=>cases ex
  |cell n=>cases er;obtain⟨p,vs,f,rfl,k1,k2⟩:=jb R3 rp ex;dsimp only;rw[qV k1];exact F8 R3 (Zq k2)
  |fz xs=>cases er;obtain⟨p,vs,f,rfl,k1,k2⟩:=jb R3 rp ex;dsimp only;rw[qV k1];exact F8 R3 (Zq k2)
  |lst xs=>cases er;obtain⟨p,vs,f,rfl,k1,k2⟩:=jb R3 rp ex;dsimp only;rw[qV k1];exact F8 R3 (Zq k2)
  |tup ts=>
   cases ex;unfold Rep at rp;obtain⟨a,vs,rfl,_,q,kk⟩:=rp;have ln:=qA (reps_iff.mp kk);dsimp only;rw[show qP h3 a=none by unfold qP;rw[q],show qW h3 a=some vs by unfold qW;rw[q]];dsimp only;unfold qAV at er;dsimp only at er;rw[ln]at er;split at er
   ·cases er
   ·rename_i hw;cases er;rw[if_neg hw];exact JP R3 (Zq kk) λe=>Frss.of_lf R3 (Zq kk) e
 | .lst as,A,X,h,M,σ,σh,R,rs=>by
  rw[pe,ev];dsimp only;refine Sim.bind (zU as A X h M σ σh R rs) ?_;intro x M1 v h1 f1 R1 q1;dsimp only;rw[<-q1.len];split
  ·exact L4 R1 q1.1 f1.1 q1.2
  ·exact Sim.stuck
 | .tup as,A,X,h,M,σ,σh,R,rs=>by
  rw[pe,ev];dsimp only;refine Sim.bind (zU as A X h M σ σh R rs) ?_;intro x M1 v h1 f1 R1 q1;dsimp only;rw[<-q1.len];split
  ·exact JP R1 q1.1 q1.2
  ·exact Sim.stuck
 | .comp it src g c e,A,X,h,M,σ,σh,R,rs=>by
  rw[pe,ev];dsimp only;refine Sim.bind (f9 it A X h M σ σh R rs) ?_;intro s M1 sh h1 f1 R1 q1;dsimp only;have hn:∀a o,a∉X->h1[a]?=some o->a∉h1.length::X/\(h1++[O.lst false []])[a]?=some o:=λa o x y=>⟨by
   rw[List.mem_cons];rintro(z|z)
   ·have:=qM y;omega
   ·exact x z,by rw[List.getElem?_append_left (qM y)];exact y⟩
  have sr:jg A (h1.length::X) (h1++[O.lst false []]) sh s.1 s.2:=W2 q1 hn λn a o _ y=>by rw[List.getElem?_append_left (qM y)];exact y
  rw[Jv sr];dsimp only;refine(Qu (its:=s.1) (λX h M σ σh R rs=>qCA c A X h M σ σh R rs) (λX h M σ σh R rs=>qY e A X h M σ σh R rs) (Nat.le_refl h1.length) (λz=>Nat.lt_irrefl _ (R1.lt _ z)) R1.sub s.1 0 [] [] true [] (h1.length::X) _ _ M1 _ rfl (Nat.zero_le _) (by simp) (Frm.app A h1 _) (R1.addX λa=>List.mem_cons) sr (by simp) (by unfold qN;rfl) ?_ ?_).le f1.1
  ·exact λ_=>⟨by unfold FPs;exact⟨rfl,rfl⟩,wu,λa ha=>by simp at ha⟩
  ·exact zQ (λ_ _ e=>e) hn (jU (R.keepS f1 rs) src)
 | .app a b,A,X,h,M,σ,σh,R,rs=>by
  rw[pe,ev];dsimp only;refine Sim.bind (qY a A X h M σ σh R rs) ?_;intro x M1 v h1 f1 R1 q1;dsimp only;obtain⟨t,fr⟩:=x;dsimp only;split
  ·rename_i n;have q:=q1.1;unfold Rep at q;obtain⟨p,ep,rfl⟩:=q;obtain⟨ts,vs,e1,e2,e3⟩:=R1.at_ n p ep;dsimp only;rw[qV e2];dsimp only;refine Sim.bind (qY b A X h1 M1 σ σh R1 (R.keepS f1 rs)) ?_;intro y M2 w h2 f2 R2 q2;dsimp only;obtain⟨ts2,vs2,g1,g2,g3⟩:=R2.at_ n p ep;rw[g1,show qc h2 p=some vs2 by unfold qc;rw[g2]];dsimp only;rw[<-qA (reps_iff.mp g3)];split
   ·have r1:zu (Rep A X h2) [y.1] [w]:=⟨w,[],rfl,q2.1,rfl⟩
    obtain⟨R4,f4⟩:=R2.put ep (reps_iff.mpr (ql (reps_iff.mp g3) r1));have r:Rep A X (h2.set p (.lst false (vs2++[w]))) (.v .non) .non:=by unfold Rep;exact⟨rfl,rfl⟩
    exact⟨.non,_,rfl,f4,R4,r,λ_=>Frs.of_lf R4 r rfl⟩
   ·exact Sim.stuck
  ·exact Sim.stuck
 | .meth m a as,A,X,h,M,σ,σh,R,rs=>by
  rw[pe,ev];dsimp only;refine Sim.bind (qY a A X h M σ σh R rs) ?_;intro x M1 v h1 f1 R1 q1;dsimp only;obtain⟨t,fr⟩:=x;dsimp only;split
  ·rename_i n;have q:=q1.1;unfold Rep at q;obtain⟨p,ep,rfl⟩:=q;obtain⟨ts,vs,e1,e2,e3⟩:=R1.at_ n p ep;dsimp only;rw[qV e2];dsimp only;refine Sim.bind (zU as A X h1 M1 σ σh R1 (R.keepS f1 rs)) ?_;intro y M2 w h2 f2 R2 q2;dsimp only;exact(U1 R2 ep q2.1).le (Nat.le_trans f1.1 f2.1)
  ·exact Sim.stuck
theorem zU:∀(e:Es) (A X:List Nat) (h:AH) (M:Mem) (σ:TS) (σh:List (Option V)),RelM gl A X h M->jL A X h σ σh->Sim gl A X h (QEs gl A X h.length) (pes gl P e σ M) (evs F e σh h)
 | .nil,A,X,h,M,σ,σh,R,rs=>by
  rw[pes,evs];have r:qN A X h [] []:=by unfold qN;rfl
  exact⟨[],h,rfl,Frm.refl A h,R,r,λ_=>Frss.of_lf R r rfl⟩
 | .cons a as,A,X,h,M,σ,σh,R,rs=>by
  rw[pes,evs];dsimp only;refine Sim.bind (qY a A X h M σ σh R rs) ?_;intro x M1 v h1 f1 R1 q1;dsimp only;obtain⟨fp1,hp1,R1',hlt1⟩:∃fp1:List Nat,(x.2=true->FP X h1 x.1 v fp1/\fp1.Nodup)/\RelM gl A (X++fp1) h1 M1/\∀a∈fp1,h.length<=a:=by
   cases hx2:x.2 with
   |true=>
    obtain⟨fp2,a,b,c,d,_⟩:=q1.2 hx2;exact⟨fp2,λ_=>⟨a,b⟩,d,c⟩
   |false=>exact⟨[],(λz=>by cases z),by rw[List.append_nil];exact R1,λa ha=>by simp at ha⟩
  have hX:∀a∈X,a∈X++fp1:=λa z=>wE _ z;have hn:∀a o,a∉X->h[a]?=some o->a∉X++fp1/\h1[a]?=some o:=λa o x y=>⟨by
   rw[wD];rintro(z|z)
   ·exact x z
   ·have:=hlt1 a z;have:=qM y;omega,(R.keepN f1 a o x y).2⟩
  refine Sim.bindW hX R.sub (Frm.refl A h1) (zU as A (X++fp1) h1 M1 σ σh R1' (zQ (λ_ _ e=>e) hn rs)) ?_;intro y M2 w h2 f2 R2 q2;dsimp only;refine⟨_,h2,rfl,f2,R2.weak hX R.sub,?_,λe=>?_⟩
  ·show qN A X h2 (x.1::y.map (·.1)) (v::w);unfold qN;exact⟨v,w,rfl,R1.keep f2 q1.1,qO (λ_ _ e=>e) (λa o x y=>⟨λz=>x (hX _ z),y⟩) _ q2.1⟩
  ·rw[List.all_cons,Bool.and_eq_true]at e;obtain⟨a1,b1⟩:=hp1 e.1;obtain⟨fp2,a2,b2,c2,d2⟩:=q2.2 e.2;refine⟨fp1++fp2,?_,?_,?_,by rw[<-wM];exact d2⟩
   ·show FPs X h2 (x.1::y.map (·.1)) (v::w) _;unfold FPs;exact⟨v,w,fp1,fp2,rfl,Qg (R1.keepN f2) _ a1,zV (λa o x y=>⟨λz=>x (hX _ z),y⟩) _ a2,rfl⟩
   ·rw[wZ];refine⟨b1,b2,?_⟩;rintro a ha b hb rfl;exact(jQ _ a2 a hb).1 (wH _ ha)
   ·intro a ha;rcases wD.mp ha with z|z
    ·exact hlt1 a z
    ·exact Nat.le_trans f1.1 (c2 a z)
theorem qCA:∀(e:Es) (A X:List Nat) (h:AH) (M:Mem) (σ:TS) (σh:List (Option V)),RelM gl A X h M->jL A X h σ σh->Sim gl A X h (λb b' _ _=>b=b') (pec gl P e σ M) (evc F e σh h)
 | .nil,A,X,h,M,σ,σh,R,rs=>by
  rw[pec,evc];exact⟨true,h,rfl,Frm.refl A h,R,rfl⟩
 | .cons a as,A,X,h,M,σ,σh,R,rs=>by
  rw[pec,evc];exact F4 (qY a A X h M σ σh R rs)
theorem f9:∀(e:Itr) (A X:List Nat) (h:AH) (M:Mem) (σ:TS) (σh:List (Option V)),RelM gl A X h M->jL A X h σ σh->Sim gl A X h (λs sh h' _=>jg A X h' sh s.1 s.2) (pei gl P e σ M) (evi F e σh h)
 | .list a,A,X,h,M,σ,σh,R,rs=>by
  rw[pei,evi];dsimp only;refine Sim.bind (qY a A X h M σ σh R rs) ?_;intro x M1 v h1 f1 R1 q1;dsimp only;refine Sim.ofO λs es=>?_;obtain⟨p,sh,rfl,e1,e2⟩:=m9 R1 q1.1 es;exact⟨sh,h1,e1,Frm.refl A h1,R1,e2⟩
 | .rng1 a,A,X,h,M,σ,σh,R,rs=>by
  rw[pei,evi];dsimp only;refine Sim.bind (qY a A X h M σ σh R rs) ?_;intro x M1 v h1 f1 R1 q1;dsimp only;obtain⟨t,fr⟩:=x;dsimp only;split
  ·cases zO q1.1;dsimp only;split
   ·exact⟨_,h1,rfl,Frm.refl A h1,R1,.rng 0 _⟩
   ·exact Sim.stuck
  ·exact Sim.stuck
 | .zip a b,A,X,h,M,σ,σh,R,rs=>by
  rw[pei,evi];dsimp only;refine Sim.bind (qY a A X h M σ σh R rs) ?_;intro x M1 v h1 f1 R1 q1;dsimp only;refine Sim.bind (qY b A X h1 M1 σ σh R1 (R.keepS f1 rs)) ?_;intro y M2 w h2 f2 R2 q2;dsimp only;refine Sim.ofO λs es=>Sim.ofO λt et=>?_;obtain⟨p,vs,rfl,e1,e2⟩:=JX R2 (R1.keep f2 q1.1) es;obtain⟨q,us,rfl,e3,e4⟩:=JX R2 q2.1 et;dsimp only;rw[e1,e3];exact⟨_,h2,rfl,Frm.refl A h2,R2,.zip p q _ _ _ _ e2 e4⟩
 | .enum a,A,X,h,M,σ,σh,R,rs=>by
  rw[pei,evi];dsimp only;refine Sim.bind (qY a A X h M σ σh R rs) ?_;intro x M1 v h1 f1 R1 q1;dsimp only;refine Sim.ofO λs es=>?_;obtain⟨p,vs,rfl,e1,e2⟩:=JX R1 q1.1 es;dsimp only;rw[e1];exact⟨_,h1,rfl,Frm.refl A h1,R1,.enum p _ _ e2⟩
end
end
mutual
theorem P7{X Af Xf:List Nat}{h:AH}(hX:∀a o,(∀vs,o≠O.lst false vs)->h[a]?=some o->a∉X->a∉Xf):∀(t:T) (n:Nat){w:V}{fp:List Nat},FP X h t w fp->(∀(k:Nat) a,fp[k]?=some a->Af[n+k]?=some a) ->
  (thaw n t).2.length=fp.length/\Rep Af Xf h (thaw n t).1 w/\∀(k:Nat) ts',(thaw n t).2[k]?=some ts'->∃a vs,fp[k]?=some a/\h[a]?=some (.lst false vs)/\qN Af Xf h ts' vs
 | .v x,n,w,fp,p,ha=>by unfold FP at p;obtain⟨p1,rfl⟩:=p;rw[show thaw n (.v x)=(.v x,[]) by simp[thaw]];exact⟨rfl,by unfold Rep;exact p1,λk ts' e=>by simp at e⟩
 | .cell _,n,w,fp,p,ha=>by unfold FP at p;exact p.elim
 | .ob o,n,w,fp,p,ha=>by unfold FP at p;obtain⟨⟨a,rfl,q1,q2⟩,rfl⟩:=p;rw[show thaw n (.ob o)=(.ob o,[]) by simp[thaw]];exact⟨rfl,by unfold Rep;exact⟨a,rfl,hX a _ (by intro _ z;cases z) q2 q1,q2⟩,λk ts' e=>by simp at e⟩
 | .fz _,n,w,fp,p,ha=>by unfold FP at p;exact p.elim
 | .lst ts,n,w,fp,p,ha=>by
  unfold FP at p;obtain⟨a,vs,f,rfl,q1,q2,q3,rfl⟩:=p;obtain⟨l,r,c⟩:=ZK hX ts n q3 (λk a e=>ha k a (by rw[List.getElem?_append_left (List.getElem?_eq_some_iff.mp e).1];exact e));rw[thaw];refine⟨by simp[l],?_,λk ts' e=>?_⟩
  ·show Rep Af Xf h (.cell _) _;unfold Rep;refine⟨a,ha _ a ?_,rfl⟩;rw[l,List.getElem?_append_right (Nat.le_refl _),vA];rfl
  ·dsimp only at e;by_cases hk:k<f.length
   ·rw[List.getElem?_append_left (by rw[l];exact hk)]at e;obtain⟨b,us,e1,e2,e3⟩:=c k ts' e;exact⟨b,us,by rw[List.getElem?_append_left hk];exact e1,e2,e3⟩
   ·rw[List.getElem?_append_right (by rw[l];omega),l]at e;have hk2:k-f.length=0:=by
     have:=(List.getElem?_eq_some_iff.mp e).1;simp at this;omega
    rw[hk2]at e;simp at e;subst e;exact⟨a,vs,by rw[List.getElem?_append_right (by omega),hk2];rfl,q2,r⟩
 | .tup ts,n,w,fp,p,ha=>by
  unfold FP at p;obtain⟨a,vs,rfl,q1,q2,q3⟩:=p;obtain⟨l,r,c⟩:=ZK hX ts n q3 ha;rw[thaw];refine⟨l,?_,c⟩;show Rep Af Xf h (.tup _) _;unfold Rep;exact⟨a,vs,rfl,hX a _ (by intro _ z;cases z) q2 q1,q2,r⟩
theorem ZK{X Af Xf:List Nat}{h:AH}(hX:∀a o,(∀vs,o≠O.lst false vs)->h[a]?=some o->a∉X->a∉Xf):∀(ts:List T) (n:Nat){ws:List V}{fp:List Nat},FPs X h ts ws fp->(∀(k:Nat) a,fp[k]?=some a->Af[n+k]?=some a) ->
  (jY n ts).2.length=fp.length/\qN Af Xf h (jY n ts).1 ws/\∀(k:Nat) ts',(jY n ts).2[k]?=some ts'->∃a vs,fp[k]?=some a/\h[a]?=some (.lst false vs)/\qN Af Xf h ts' vs
 | [],n,ws,fp,p,ha=>by unfold FPs at p;obtain⟨rfl,rfl⟩:=p;rw[jY];exact⟨rfl,by unfold qN;rfl,λk ts' e=>by simp at e⟩
 |t::ts,n,ws,fp,p,ha=>by
  unfold FPs at p;obtain⟨v,vs,f1,f2,rfl,q1,q2,rfl⟩:=p;obtain⟨l1,r1,c1⟩:=P7 hX t n q1 (λk a e=>ha k a (by rw[List.getElem?_append_left (List.getElem?_eq_some_iff.mp e).1];exact e));obtain⟨l2,r2,c2⟩:=ZK hX ts (n+(thaw n t).2.length) q2 (λk a e=>by
   have:=ha (f1.length+k) a (by rw[List.getElem?_append_right (by omega),Nat.add_sub_cancel_left];exact e);rw[l1,Nat.add_assoc];exact this)
  rw[jY];refine⟨by dsimp only;rw[List.length_append,List.length_append,l2,l1],?_,λk ts' e=>?_⟩
  ·show qN Af Xf h (_::_) _;unfold qN;exact⟨v,vs,rfl,r1,r2⟩
  ·dsimp only at e;by_cases hk:k<f1.length
   ·rw[List.getElem?_append_left (by rw[l1];exact hk)]at e;obtain⟨b,us,e1,e2,e3⟩:=c1 k ts' e;exact⟨b,us,by rw[List.getElem?_append_left hk];exact e1,e2,e3⟩
   ·rw[List.getElem?_append_right (by rw[l1];omega)]at e;obtain⟨b,us,e1,e2,e3⟩:=c2 _ ts' e;rw[l1]at e1;exact⟨b,us,by rw[List.getElem?_append_right (by omega)];exact e1,e2,e3⟩
end
theorem RelM.thaw{gl:List T}{A X fp:List Nat}{h:AH}{M:Mem}{t:T}{w:V}(R:RelM gl A (X++fp) h M)(hA:∀a∈A,a∈X)(p:FP X h t w fp)(nd:fp.Nodup):
  RelM gl (A++fp) (X++fp) h (M++(PI.thaw M.length t).2)/\Rep (A++fp) (X++fp) h (PI.thaw M.length t).1 w:=by
 have hX:∀a o,(∀vs,o≠O.lst false vs)->h[a]?=some o->a∉X->a∉X++fp:=λa o hno e x=>by
  rw[wD];rintro(z|z)
  ·exact x z
  ·obtain⟨_,us,e2⟩:=C9 t p a z;rw[e]at e2;cases e2;exact hno _ rfl
 obtain⟨l,r,c⟩:=P7 (Af:=A++fp) hX t M.length p (λk a e=>by rw[<-R.len,List.getElem?_append_right (by omega),Nat.add_sub_cancel_left];exact e);refine⟨⟨by simp[R.len,l],?_,?_,R.lt,λn a e=>?_,λg t e=>?_⟩,r⟩
 ·rw[wZ];exact⟨R.nd,nd,by rintro a ha b hb rfl;exact(C9 t p a hb).1 (hA a ha)⟩
 ·intro a ha;rcases wD.mp ha with z|z
  ·exact wE _ (hA a z)
  ·exact wH _ z
 ·by_cases hn:n<A.length
  ·rw[List.getElem?_append_left hn]at e;obtain⟨ts,vs,e1,e2,e3⟩:=R.at_ n a e;exact⟨ts,vs,by rw[List.getElem?_append_left (by rw[<-R.len];exact hn)];exact e1,e2,qO (λk b eb=>by rw[List.getElem?_append_left (List.getElem?_eq_some_iff.mp eb).1];exact eb) (λa o x y=>⟨x,y⟩) ts e3⟩
  ·rw[List.getElem?_append_right (by omega)]at e;have hk:n-A.length<(PI.thaw M.length t).2.length:=by rw[l];exact(List.getElem?_eq_some_iff.mp e).1
   obtain⟨b,us,e1,e2,e3⟩:=c (n-A.length) _ (wA hk);rw[e]at e1;cases e1;have hnm:n-M.length=n-A.length:=by rw[R.len]
   exact⟨_,us,by rw[List.getElem?_append_right (by rw[<-R.len];omega),hnm];exact wA hk,e2,e3⟩
 ·exact zL (λk b eb=>by rw[List.getElem?_append_left (List.getElem?_eq_some_iff.mp eb).1];exact eb) (λa o x y=>⟨x,y⟩) t (R.glo g t e)
theorem JF{A X:List Nat}{h:AH}(n:Nat):∀{ts:List T}{ws:List V},qN A X h ts ws->jL A X h (ts.map some++List.replicate n none) (ws.map some++List.replicate n none)
 | [],ws,r=>by
  unfold qN at r;subst r;show jL A X h (List.replicate n none) (List.replicate n none)
  induction n with
  |zero=>rfl
  |succ n ih=>exact⟨none,_,rfl,trivial,ih⟩
 |t::ts,ws,r=>by
  unfold qN at r;obtain⟨v,vs,rfl,a,b⟩:=r;exact⟨some v,_,rfl,a,JF n b⟩
def RelO(gl:List T)(A X:List Nat)(n:Nat)(h:AH)(M:Mem):PO->Out->Prop
 | .nx σ,.nx σh=>jL A X h σ σh
 | .bk σ,.bk σh=>jL A X h σ σh
 | .ct σ,.ct σh=>jL A X h σ σh
 | .rt t,.rt w=>QE gl A X n t w h M
 |_,_=>False
theorem RelO.le{gl:List T}{A X:List Nat}{n m:Nat}{h:AH}{M:Mem}{o:PO}{oh:Out}(r:RelO gl A X n h M o oh)(l:m<=n):RelO gl A X m h M o oh:=by
 cases o<;>cases oh<;>first|exact r|exact QE.le r l
def SimS(gl:List T)(A X:List Nat)(h:AH):RSt->RS->Prop
 | .ok (o,M'),r=>∃oh h' B,r=.ok (oh,h')/\Frm A h h'/\(∀b∈B,h.length<=b)/\RelM gl (A++B) (X++B) h' M'/\RelO gl (A++B) (X++B) h.length h' M' o oh
 | .exc c M',r=>∃h' B,r=.exc c h'/\Frm A h h'/\(∀b∈B,h.length<=b)/\RelM gl (A++B) (X++B) h' M'
 | .stuck,_=>True
theorem SimS.stuck{gl:List T}{A X:List Nat}{h:AH}{r:RS}:SimS gl A X h .stuck r:=trivial
theorem SimS.mk{gl:List T}{A X:List Nat}{h:AH}{M:Mem}{o:PO}{oh:Out}(R:RelM gl A X h M)(ro:RelO gl A X h.length h M o oh):SimS gl A X h (.ok (o,M)) (.ok (oh,h)):=
 ⟨oh,h,[],rfl,Frm.refl A h,λb hb=>by simp at hb,by simpa using R,by simpa using ro⟩
theorem SimS.pre{gl:List T}{A X:List Nat}{h h1:AH}{r:RSt}{rh:RS}(s:SimS gl A X h1 r rh)(f:Frm A h h1):SimS gl A X h r rh:=by
 cases r with
 |ok p=>
  obtain⟨o,M'⟩:=p;obtain⟨oh,h',B,e,f1,hB,R,ro⟩:=s;exact⟨oh,h',B,e,f.trans f1,λb hb=>Nat.le_trans f.1 (hB b hb),R,ro.le f.1⟩
 |exc c M'=>
  obtain⟨h',B,e,f1,hB,R⟩:=s;exact⟨h',B,e,f.trans f1,λb hb=>Nat.le_trans f.1 (hB b hb),R⟩
 |stuck=>trivial
theorem Sim.bindS{α β:Type}{gl:List T}{A X:List Nat}{h:AH}{Q:α->β->AH->Mem->Prop}{r:PR (α×Mem)}{rh:Res (β×AH)}{f:α×Mem->RSt}{g:β×AH->RS}
  (s:Sim gl A X h Q r rh) (k:∀x M' y h',Frm A h h'->RelM gl A X h' M'->Q x y h' M'->SimS gl A X h' (f (x,M')) (g (y,h'))):SimS gl A X h (r.bind f) (rh.bind g):=by
 cases r with
 |ok p=>
  obtain⟨x,M'⟩:=p;obtain⟨y,h',rfl,f1,R1,q⟩:=s;exact(k x M' y h' f1 R1 q).pre f1
 |exc c M'=>
  obtain⟨h',rfl,f1,R1⟩:=s;exact⟨h',[],rfl,f1,λb hb=>by simp at hb,by simpa using R1⟩
 |stuck=>trivial
theorem SimS.bind{gl:List T}{A X:List Nat}{h:AH}{r:RSt}{rh:RS}{f:PO×Mem->RSt}{g:Out×AH->RS}
  (s:SimS gl A X h r rh) (k:∀o M' oh h' B,Frm A h h'->(∀b∈B,h.length<=b)->RelM gl (A++B) (X++B) h' M'->RelO gl (A++B) (X++B) h.length h' M' o oh->SimS gl (A++B) (X++B) h' (f (o,M')) (g (oh,h'))\/(f (o,M')=.ok (o,M')/\g (oh,h')=.ok (oh,h'))):SimS gl A X h (r.bind f) (rh.bind g):=by
 cases r with
 |ok p=>
  obtain⟨o,M'⟩:=p;obtain⟨oh,h',B,rfl,f1,hB,R,ro⟩:=s;rw[PR.bind_ok,Res.bind_ok];rcases k o M' oh h' B f1 hB R ro with s2|⟨e1,e2⟩
  ·revert s2;generalize f (o,M')=r2;generalize g (oh,h')=rh2;intro s2;cases r2 with
   |ok p2=>
    obtain⟨o2,M2⟩:=p2;obtain⟨oh2,h2,B2,rfl,f2,hB2,R2,ro2⟩:=s2;rw[wM,wM]at R2 ro2;exact⟨oh2,h2,B++B2,rfl,f1.trans2 hB f2,λb hb=>by
     rcases wD.mp hb with z|z
     ·exact hB b z
     ·exact Nat.le_trans f1.1 (hB2 b z),R2,ro2.le f1.1⟩
   |exc c M2=>
    obtain⟨h2,B2,rfl,f2,hB2,R2⟩:=s2;rw[wM,wM]at R2;exact⟨h2,B++B2,rfl,f1.trans2 hB f2,λb hb=>by
     rcases wD.mp hb with z|z
     ·exact hB b z
     ·exact Nat.le_trans f1.1 (hB2 b z),R2⟩
   |stuck=>trivial
  ·rw[e1,e2];exact⟨oh,h',B,rfl,f1,hB,R,ro⟩
 |exc c M'=>
  obtain⟨h',B,rfl,f1,hB,R⟩:=s;exact⟨h',B,rfl,f1,hB,R⟩
 |stuck=>trivial
theorem Qi{A X B:List Nat}{h h':AH}(hs:∀a∈A,a∈X)(f:Frm A h h')(hB:∀b∈B,h.length<=b):∀a o,a∉X->h[a]?=some o->a∉X++B/\h'[a]?=some o:=λa o x y=>⟨by
 rw[wD];rintro(z|z)
 ·exact x z
 ·have:=hB a z;have:=qM y;omega,(f.2 a (qM y) λz=>x (hs _ z)).trans y⟩
theorem zY{A B:List Nat}:∀(n:Nat) a,A[n]?=some a->(A++B)[n]?=some a:=λn a e=>by rw[List.getElem?_append_left (List.getElem?_eq_some_iff.mp e).1];exact e
theorem O4{gl:List T}{s:Src}{its:List T}{d:jh}{g:Tg}{b:TS->Mem->RSt}{b':List (Option V)->AH->RS}
  (hb:∀A X h M σ σh,RelM gl A X h M->jL A X h σ σh->SimS gl A X h (b σ M) (b' σh h)):∀(r:List T) (i:Nat) (σ:TS) (σh:List (Option V)) (M:Mem) (h:AH) (A X:List Nat),
   its.drop i=r->i<=its.length->RelM gl A X h M->jg A X h s its d->jL A X h σ σh->SimS gl A X h (qq d g b r σ M) (JD s g b' r.length i σh h)
 | [],i,σ,σh,M,h,A,X,hr,hi,R,sr,rs=>by
  have hi':i=its.length:=by
   have:=List.drop_eq_nil_iff.mp hr;omega
  subst hi';show SimS gl A X h (.ok (.nx σ,M)) (if zy h its.length s then _ else _);rw[if_pos (Zg sr)];exact SimS.mk R rs
 |x::r,i,σ,σh,M,h,A,X,hr,hi,R,sr,rs=>by
  have ex:its[i]?=some x:=by
   have:(its.drop i)[0]?=some x:=by rw[hr];rfl
   rwa [List.getElem?_drop,Nat.add_zero]at this
  have hi2:i+1<=its.length:=(List.getElem?_eq_some_iff.mp ex).1;have hr2:its.drop (i+1)=r:=by
   rw[<-List.drop_drop,hr];rfl
  obtain⟨w,ext,ey,rx⟩:=Qb R sr ex;have fy:Frm A h (h++ext):=Frm.app A h ext;rw[List.length_cons];unfold qq JD;rw[ey];dsimp only;cases es:qt g x σ with
  |none=>exact SimS.stuck
  |some σ1=>
   obtain⟨σh1,esh,rs1⟩:=store_ok es rx (R.keepS fy rs);rw[esh];dsimp only;refine SimS.bind ((hb A X _ M σ1 σh1 (R.up ext) rs1).pre fy) ?_;intro o M2 oh h2 B f2 hB R2 ro;have nxt:∀σ2 σh2,jL (A++B) (X++B) h2 σ2 σh2->SimS gl (A++B) (X++B) h2 (if qd d M2=true then qq d g b r σ2 M2 else .stuck) (JD s g b' r.length (i+1) σh2 h2):=λσ2 σh2 rs2=>by
    split
    ·rename_i hd;exact O4 hb r (i+1) σ2 σh2 M2 h2 _ _ hr2 hi2 R2 (Qs sr (Qi R.sub f2 hB) R2 hd zY) rs2
    ·exact SimS.stuck
   cases o with
   |nx σ2=>cases oh<;>first|exact .inl (nxt _ _ ro)|exact ro.elim
   |ct σ2=>cases oh<;>first|exact .inl (nxt _ _ ro)|exact ro.elim
   |bk σ2=>cases oh<;>first|exact .inl (SimS.mk R2 ro)|exact ro.elim
   |rt t=>cases oh<;>first|exact .inr ⟨rfl,rfl⟩|exact ro.elim
section
variable{gl:List T}{P:Nat->List T->Mem->PR (TB×Mem)}{F:Nat->List V->AH->RV}(C:List Nat)
variable (hF:∀f ts ws A X h M,RelM gl A X h M->qN A X h ts ws->Sim gl A X h (QE gl A X h.length) (P f ts M) (F f ws h))
include hF
omit hF in
omit hF in
def qFS(gl:List T)(A X:List Nat)(h:AH):PR (TB×Mem)->RV->Prop
 | .ok ((.lst ts,_),M1),r=>∃h1 vs,r=.ok (.ref h1.length,h1++[.lst false vs])/\Frm A h h1/\RelM gl A X h1 M1/\qN A X h1 ts vs
 |_,_=>True
omit hF in
theorem RelM.cellN{gl:List T}{A X:List Nat}{h:AH}{M:Mem}{ts:List T}{vs:List V}(R:RelM gl A X h M)(r:qN A X h ts vs):RelM gl (A++[h.length]) (X++[h.length]) (h++[.lst false vs]) (M++[ts]):=by
 have hn:∀a o,a∉X->h[a]?=some o->a∉X++[h.length]/\(h++[O.lst false vs])[a]?=some o:=Qi R.sub (Frm.app A h _) (λb hb=>by simp at hb;omega);refine⟨by simp[R.len],?_,λa ha=>?_,λa ha=>?_,λn a e=>?_,λg t e=>zL zY hn t (R.glo g t e)⟩
 ·rw[wZ];refine⟨R.nd,by simp,λa ha b hb=>?_⟩;have:=R.lt a (R.sub a ha);simp at hb;omega
 ·rcases wD.mp ha with z|z
  ·exact wE _ (R.sub a z)
  ·exact wH _ z
 ·rcases wD.mp ha with z|z
  ·have:=R.lt a z;simp;omega
  ·simp at z;simp[z]
 ·by_cases hlt:n<A.length
  ·rw[List.getElem?_append_left hlt]at e;obtain⟨us,ws,e1,e2,e3⟩:=R.at_ n a e;exact⟨us,ws,by rw[List.getElem?_append_left (by rw[<-R.len];exact hlt)];exact e1,by rw[List.getElem?_append_left (qM e2)];exact e2,qO zY hn us e3⟩
  ·have hl:=(List.getElem?_eq_some_iff.mp e).1;have hnn:n=A.length:=by simp at hl;omega
   subst hnn;simp at e;subst e;exact⟨ts,vs,by rw[R.len];simp,by simp,qO zY hn ts r⟩
omit hF in
theorem K8{e:E}(h:qBh e=true):(∃as,e=.lst as)\/∃a b,e=.bin .add a b:=by
 unfold qBh at h;split at h
 ·exact .inr ⟨_,_,rfl⟩
 ·exact .inl ⟨_,rfl⟩
 ·cases h
theorem w4(e:E)(he:qBh e=true)(A X:List Nat)(h:AH)(M:Mem)(σ:TS)(σh:List (Option V))(R:RelM gl A X h M)(rs:jL A X h σ σh):qFS gl A X h (pe gl P e σ M) (ev F e σh h):=by
 rcases K8 he with⟨as,rfl⟩|⟨a,b,rfl⟩
 ·rw[pe,ev];dsimp only;have s1:=zU hF as A X h M σ σh R rs;revert s1;generalize pes gl P as σ M=r;generalize evs F as σh h=rh;intro s1;cases r with
  |stuck=>trivial
  |exc c M'=>trivial
  |ok p=>
   obtain⟨x,M1⟩:=p;obtain⟨w,h1,rfl,f1,R1,q⟩:=s1;rw[PR.bind_ok,Res.bind_ok];dsimp only;rw[<-q.len];split
   ·exact⟨h1,w,rfl,f1,R1,q.1⟩
   ·trivial
 ·rw[pe,ev];dsimp only;have s1:=qY hF a A X h M σ σh R rs;revert s1;generalize pe gl P a σ M=r;generalize ev F a σh h=rh;intro s1;cases r with
  |stuck=>trivial
  |exc c M'=>trivial
  |ok p=>
   obtain⟨x,M1⟩:=p;obtain⟨v,h1,rfl,f1,R1,q1⟩:=s1;rw[PR.bind_ok,Res.bind_ok];dsimp only;have s2:=qY hF b A X h1 M1 σ σh R1 (R.keepS f1 rs);revert s2;generalize pe gl P b σ M1=r;generalize ev F b σh h1=rh;intro s2;cases r with
   |stuck=>trivial
   |exc c M'=>trivial
   |ok p=>
    obtain⟨y,M2⟩:=p;obtain⟨w,h2,rfl,f2,R2,q2⟩:=s2;rw[PR.bind_ok,Res.bind_ok];dsimp only;have rx:=R1.keep f2 q1.1;cases eb:zJ M2 .add x.1 y.1 with
    |none=>trivial
    |some r=>
     rw[PR.ofO_some,PR.bind_ok];unfold zJ at eb;split at eb
     ·cases eb;trivial
     ·cases eb
     ·rename_i e1 e2;dsimp only at eb;split at eb
      ·split at eb
       ·cases eb;trivial
       ·cases eb
      rename_i u0 u1 u2;clear u2;obtain⟨xs,m1,eb⟩:=Option.bind_eq_some_iff.mp eb;obtain⟨ys,m2,eb⟩:=Option.bind_eq_some_iff.mp eb;split at eb
      ·rename_i hl;cases eb;obtain⟨a1,vs,rfl,g1,k1⟩:=D3 R2 rx m1;obtain⟨a2,us,rfl,g2,k2⟩:=D3 R2 q2.1 m2;refine⟨h2,vs++us,?_,f1.trans f2,R2,reps_iff.mpr (ql (reps_iff.mp k1) (reps_iff.mp k2))⟩;show (match qc h2 a1,qc h2 a2 with|some xs,some ys=>if xs.length+ys.length<=lim then newL (xs++ys) h2 else .stuck|_,_=>_)=_;rw[g1,g2];dsimp only;rw[<-qA (reps_iff.mp k1),<-qA (reps_iff.mp k2),if_pos hl];rfl
      ·cases eb
     ·cases eb
omit hF in
omit hF in
omit hF in
omit hF in
omit hF in
omit hF in
omit hF in
omit hF in
def SimN(gl:List T)(A X:List Nat)(D n0:Nat)(h:AH):RSt->RS->Prop
 | .ok (o,M'),r=>∃oh h',r=.ok (oh,h')/\Frm (A++[D]) h h'/\RelM gl A X h' M'/\RelO gl A X n0 h' M' o oh
 | .exc _ _,_=>False
 | .stuck,_=>True
omit hF in
theorem SimN.pre{A X:List Nat}{D n0:Nat}{h h1:AH}{r:RSt}{rh:RS}(s:SimN gl A X D n0 h1 r rh)(f:Frm (A++[D]) h h1):SimN gl A X D n0 h r rh:=by
 match r,s with
 | .ok (o,M'),⟨oh,h',e,f1,R,ro⟩=>exact⟨oh,h',e,f.trans f1,R,ro⟩
 | .exc _ _,z=>exact z.elim
 | .stuck,_=>trivial
omit hF in
theorem Frm.more{A:List Nat}{D:Nat}{h h':AH}(f:Frm A h h'):Frm (A++[D]) h h':=⟨f.1,λj hj hA=>f.2 j hj λz=>hA (wE _ z)⟩
mutual
theorem qA5:∀(s:S) (A X:List Nat) (h:AH) (M:Mem) (σ:TS) (σh:List (Option V)),RelM gl A X h M->jL A X h σ σh->SimS gl A X h (px gl P C s σ M) (ex F s σh h)
 | .asg g e,A,X,h,M,σ,σh,R,rs=>by
  rw[px,ex];dsimp only;have se:=qY hF e A X h M σ σh R rs;have tp:=λhe=>w4 hF e he A X h M σ σh R rs;revert se tp;generalize pe gl P e σ M=r;generalize ev F e σh h=rh;intro se tp;cases r with
  |stuck=>trivial
  |exc c M'=>
   obtain⟨h',rfl,f1,R1⟩:=se;exact⟨h',[],rfl,f1,λb hb=>by simp at hb,by simpa using R1⟩
  |ok p=>
   obtain⟨x,M1⟩:=p;obtain⟨w,h1,rfl,f1,R1,q⟩:=se;rw[PR.bind_ok,Res.bind_ok];dsimp only;have gen:∀{g:Tg}{σ1:TS},qt g x.1 σ=some σ1->SimS gl A X h (.ok (.nx σ1,M1)) (match store g w σh h1 with|some σ1=>.ok (.nx σ1,h1)|none=>.stuck):=λe=>by
    obtain⟨σh1,e2,rs2⟩:=store_ok e q.1 (R.keepS f1 rs);rw[e2];exact(SimS.mk (o:=.nx _) (oh:=.nx _) R1 rs2).pre f1
   cases g with
   |name i=>
    dsimp only;split
    ·rename_i hc;rw[Bool.and_eq_true]at hc;obtain⟨fp,p,nd,l,R',_⟩:=q.2 hc.2;obtain⟨R2,r2⟩:=R'.thaw R.sub p nd;refine⟨.nx (σh.set i (some w)),h1,fp,rfl,f1,l,R2,?_⟩;exact zD i (zQ zY (Qi R.sub f1 l) rs) (show i8 _ _ h1 (some _) (some w) from r2)
    ·split
     ·rename_i hc;rw[Bool.and_eq_true]at hc;have tp:=tp hc.2;obtain⟨x1,x2⟩:=x;dsimp only;split
      ·rename_i ts;obtain⟨h0,vs,e0,f0,R0,r0⟩:=tp;cases e0;refine⟨.nx (σh.set i (some (.ref h0.length))),_,[h0.length],rfl,f0.trans (Frm.app A h0 _),λb hb=>by simp at hb;have:=f0.1;omega,R0.cellN r0,?_⟩;refine zD i (zQ zY (Qi R0.sub (Frm.app A h0 _) (λb hb=>by simp at hb;omega)) (R.keepS f0 rs)) (show i8 _ _ _ (some _) (some _) from ?_);have rc:Rep (A++[h0.length]) (X++[h0.length]) (h0++[O.lst false vs]) (.cell M1.length) (.ref h0.length):=by
        unfold Rep;exact⟨h0.length,by rw[<-R0.len];simp,rfl⟩
       exact rc
      ·exact SimS.stuck
     ·exact gen (g:=.name i) rfl
   |tup is=>
    dsimp only;split
    ·rename_i σ1 e;exact gen e
    ·exact SimS.stuck
 | .put o i v,A,X,h,M,σ,σh,R,rs=>by
  rw[px,ex];dsimp only;refine Sim.bindS (qY hF v A X h M σ σh R rs) ?_;intro x M1 vx h1 f1 R1 q1;dsimp only;refine Sim.bindS (qY hF o A X h1 M1 σ σh R1 (R.keepS f1 rs)) ?_;intro y M2 w h2 f2 R2 q2;dsimp only;refine Sim.bindS (qY hF i A X h2 M2 σ σh R2 (R1.keepS f2 (R.keepS f1 rs))) ?_;intro z M3 u h3 f3 R3 q3;dsimp only;obtain⟨ty,fy⟩:=y;obtain⟨tz,fz⟩:=z;dsimp only;split
  ·rename_i n k;cases zO q3.1;have q:=R2.keep f3 q2.1;unfold Rep at q;obtain⟨p,ep,rfl⟩:=q;obtain⟨ts2,vs2,g1,g2,g3⟩:=R3.at_ n p ep;rw[g1];dsimp only;rw[show qc h3 p=some vs2 by unfold qc;rw[g2]];dsimp only;rw[<-qA (reps_iff.mp g3)];split
   ·rename_i j ej
    try simp only[ej]
    obtain⟨R4,f4⟩:=R3.put ep (reps_iff.mpr (zD j (reps_iff.mp g3) (R2.keep f3 (R1.keep f2 q1.1))));exact(SimS.mk (o:=.nx σ) (oh:=.nx σh) R4 (R3.keepS f4 (R2.keepS f3 (R1.keepS f2 (R.keepS f1 rs))))).pre f4
   ·exact SimS.stuck
  ·exact SimS.stuck
 | .expr e,A,X,h,M,σ,σh,R,rs=>by
  rw[px,ex];dsimp only;refine Sim.bindS (qY hF e A X h M σ σh R rs) ?_;intro x M1 v h1 f1 R1 q1;dsimp only;exact SimS.mk (o:=.nx σ) (oh:=.nx σh) R1 (R.keepS f1 rs)
 | .ret e,A,X,h,M,σ,σh,R,rs=>by
  rw[px,ex];dsimp only;have se:=qY hF e A X h M σ σh R rs;revert se;generalize pe gl P e σ M=r;generalize ev F e σh h=rh;intro se;cases r with
  |stuck=>trivial
  |exc c M'=>
   obtain⟨h',rfl,f1,R1⟩:=se;exact⟨h',[],rfl,f1,λb hb=>by simp at hb,by simpa using R1⟩
  |ok p=>
   obtain⟨x,M1⟩:=p;obtain⟨w,h1,rfl,f1,R1,q⟩:=se;exact⟨.rt w,h1,[],rfl,f1,λb hb=>by simp at hb,by simpa using R1,by simpa using (show RelO gl A X h.length h1 M1 (.rt x) (.rt w) from q)⟩
 | .ifs c t u,A,X,h,M,σ,σh,R,rs=>by
  rw[px,ex];dsimp only;refine Sim.bindS (F4 (qY hF c A X h M σ σh R rs)) ?_;rintro x M1 v h1 f1 R1 rfl;dsimp only;cases x with
  |true=>simp only[if_true];exact Zb t A X h1 M1 σ σh R1 (R.keepS f1 rs)
  |false=>simp only[Bool.false_eq_true,if_false];exact Zb u A X h1 M1 σ σh R1 (R.keepS f1 rs)
 | .for_ g it b,A,X,h,M,σ,σh,R,rs=>by
  rw[px,ex];dsimp only;refine Sim.bindS (f9 hF it A X h M σ σh R rs) ?_;intro s M1 sh h1 f1 R1 q1;dsimp only;rw[Jv q1];exact O4 (λA X h M σ σh R rs=>Zb b A X h M σ σh R rs) s.1 0 σ σh M1 h1 A X rfl (Nat.zero_le _) R1 q1 (R.keepS f1 rs)
 | .xexpr f as,A,X,h,M,σ,σh,R,rs=>by
  rw[px,ex];dsimp only;refine Sim.bindS (zU hF as A X h M σ σh R rs) ?_;intro x M1 v h1 f1 R1 q1;dsimp only;refine Sim.bindS (hF f _ _ A X h1 M1 R1 q1.1) ?_;intro y M2 w h2 f2 R2 q2;dsimp only;exact SimS.mk R2 (R1.keepS f2 (R.keepS f1 rs))
 | .raise c,A,X,h,M,σ,σh,R,rs=>by
  rw[px,ex];exact⟨h,[],rfl,Frm.refl A h,λb hb=>by simp at hb,by simpa using R⟩
 | .tryK b e i m ks,A,X,h,M,σ,σh,R,rs=>by
  rw[px,ex];dsimp only;have sb:=qA5 b A X h M σ σh R rs;revert sb;generalize px gl P C b σ M=r;generalize ex F b σh h=rh;intro sb;cases r with
  |stuck=>trivial
  |ok p=>
   obtain⟨o,M'⟩:=p;obtain⟨oh,h',B,rfl,q⟩:=sb;exact⟨oh,h',B,rfl,q⟩
  |exc c M1=>
   obtain⟨h',B,rfl,f1,hB,R1⟩:=sb;dsimp only;by_cases hcm:c<m
   case neg=>rw[if_neg hcm];exact SimS.stuck
   rw[if_pos hcm,if_pos hcm];have rp:Rep (A++B) (X++B) (h'++[O.lst false (ks.map λk=>V.bl (QY c k))]) (.lst (ks.map λk=>.v (.bl (QY c k)))) (.ref h'.length):=by
    unfold Rep;refine⟨h'.length,ks.map λk=>V.bl (QY c k),rfl,λz=>by have:=R1.lt _ z;omega,by simp,?_⟩;have go:∀(l:List Nat) (g:AH),qN (A++B) (X++B) g (l.map λk=>.v (.bl (QY c k))) (l.map λk=>V.bl (QY c k)):=λl g=>by
     induction l with
     |nil=>unfold qN;rfl
     |cons a r ih=>
      rw[List.map_cons,List.map_cons];unfold qN;exact⟨_,_,rfl,by unfold Rep;exact⟨rfl,rfl⟩,ih⟩
    exact go ks _
   refine⟨_,_,B,rfl,f1.trans (Frm.app A h' _),hB,R1.up _,?_⟩;refine zD e (zD i (zQ zY (Qi R.sub (f1.trans (Frm.app A h' _)) hB) rs) ?_) ?_
   ·exact rp
   ·trivial
 | .xrn o f as,A,X,h,M,σ,σh,R,rs=>by
  rw[px,ex];dsimp only;refine Sim.bindS (zU hF as A X h M σ σh R rs) ?_;intro x M1 v h1 f1 R1 q1;dsimp only;have se:=hF f _ _ A X h1 M1 R1 q1.1;revert se;generalize P f (x.map (·.1)) M1=r;generalize F f v h1=rh;intro se;cases r with
  |stuck=>trivial
  |exc c M'=>
   obtain⟨h',rfl,f1,R1⟩:=se;exact⟨h',[],rfl,f1,λb hb=>by simp at hb,by simpa using R1⟩
  |ok p=>
   obtain⟨x,M2⟩:=p;obtain⟨w,h2,rfl,f2,R2,q⟩:=se;dsimp only[PR.bind];cases ec:qe M2 o x.1 (.v .non) with
   |none=>trivial
   |some b=>
    have e2:G4 o w .non h2=some b:=ZO R2 q.1 (show Rep A X h2 (.v .non) .non by unfold Rep;exact⟨rfl,rfl⟩) ec;have e3:G5 o w .non h2=.ok (.bl b,h2):=by unfold G5;rw[e2]
    refine⟨.rt (.bl b),h2,[],by dsimp only[Res.bind];rw[e3],f2,λb hb=>by simp at hb,by simpa using R2,?_⟩;have rb:Rep A X h2 (.v (.bl b)) (.bl b):=by unfold Rep;exact⟨rfl,rfl⟩
    simpa using (show RelO gl A X h1.length h2 M2 (.rt (bT b)) (.rt (.bl b)) from⟨rb,λ_=>Frs.of_lf R2 rb rfl⟩)
 | .xret f as,A,X,h,M,σ,σh,R,rs=>by
  rw[px,ex];dsimp only;refine Sim.bindS (zU hF as A X h M σ σh R rs) ?_;intro x M1 v h1 f1 R1 q1;dsimp only;have se:=hF f _ _ A X h1 M1 R1 q1.1;revert se;generalize P f (x.map (·.1)) M1=r;generalize F f v h1=rh;intro se;cases r with
  |stuck=>trivial
  |exc c M'=>
   obtain⟨h',rfl,f1,R1⟩:=se;exact⟨h',[],rfl,f1,λb hb=>by simp at hb,by simpa using R1⟩
  |ok p=>
   obtain⟨x,M2⟩:=p;obtain⟨w,h2,rfl,f2,R2,q⟩:=se;exact⟨.rt w,h2,[],rfl,f2,λb hb=>by simp at hb,by simpa using R2,by simpa using (show RelO gl A X h1.length h2 M2 (.rt x) (.rt w) from q)⟩
 | .xasg i f as,A,X,h,M,σ,σh,R,rs=>by
  rw[px,ex];dsimp only;refine Sim.bindS (zU hF as A X h M σ σh R rs) ?_;intro x M1 v h1 f1 R1 q1;dsimp only;have se:=hF f _ _ A X h1 M1 R1 q1.1;revert se;generalize P f _ M1=r;generalize F f _ h1=rh;intro se;rcases r with⟨p0⟩|⟨c,M'⟩|_
  rotate_left
  ·obtain⟨h',rfl,f2,R2⟩:=se;exact⟨h',[],rfl,f2,λb hb=>by simp at hb,by simpa using R2⟩
  ·trivial
  obtain⟨y,M2⟩:=p0;obtain⟨w,h2,rfl,f2,R2,q2⟩:=se;rw[PR.bind_ok,Res.bind_ok];dsimp only;split
  ·rename_i hc;rw[Bool.and_eq_true]at hc;obtain⟨fp,p,nd,l,R',_⟩:=q2.2 hc.2;obtain⟨R3,r3⟩:=R'.thaw R1.sub p nd;refine⟨.nx (σh.set i (some w)),h2,fp,rfl,f2,l,R3,?_⟩;exact zD i (zQ zY (Qi R1.sub f2 l) (R.keepS f1 rs)) (show i8 _ _ h2 (some _) (some w) from r3)
  ·exact(SimS.mk (o:=.nx _) (oh:=.nx _) R2 (zD i (R1.keepS f2 (R.keepS f1 rs)) (show i8 A X h2 (some y.1) (some w) from q2.1))).pre f2
 | .stop,A,X,h,M,σ,σh,R,rs=>by rw[px,ex];exact SimS.stuck
theorem Zb:∀(s:Ss) (A X:List Nat) (h:AH) (M:Mem) (σ:TS) (σh:List (Option V)),RelM gl A X h M->jL A X h σ σh->SimS gl A X h (pxs gl P C s σ M) (exs F s σh h)
 | .nil,A,X,h,M,σ,σh,R,rs=>by rw[pxs,exs];exact SimS.mk (o:=.nx σ) (oh:=.nx σh) R rs
 | .cons s r,A,X,h,M,σ,σh,R,rs=>by
  rw[pxs,exs];dsimp only;refine SimS.bind (qA5 s A X h M σ σh R rs) ?_;intro o M1 oh h1 B f1 hB R1 ro;cases o with
  |nx σ2=>cases oh<;>first|exact .inl (Zb r _ _ h1 M1 _ _ R1 ro)|exact ro.elim
  |ct σ2=>cases oh<;>first|exact .inr ⟨rfl,rfl⟩|exact ro.elim
  |bk σ2=>cases oh<;>first|exact .inr ⟨rfl,rfl⟩|exact ro.elim
  |rt t=>cases oh<;>first|exact .inr ⟨rfl,rfl⟩|exact ro.elim
end
end
section
variable{gl:List T}{A X B:List Nat}{h h':AH}{M M1:Mem}
theorem mapM_cons{α β:Type}{f:α->Option β}{x:α}{xs:List α}{ys:List β}(e:(x::xs).mapM f=some ys):∃y ys',f x=some y/\xs.mapM f=some ys'/\ys=y::ys':=by
 rw[List.mapM_cons]at e;cases hf:f x with
 |none=>rw[hf]at e;cases e
 |some y=>
  rw[hf]at e;cases hg:xs.mapM f with
  |none=>rw[hg]at e;cases e
  |some ys'=>rw[hg]at e;cases e;exact⟨y,ys',rfl,rfl,rfl⟩
theorem mapM_nil{α β:Type}{f:α->Option β}{ys:List β}(e:([]:List α).mapM f=some ys):ys=[]:=by
 rw[List.mapM_nil]at e;cases e;rfl
theorem jJ{A1 X1:List Nat}{f:T->Option T}(hf:∀t t' w,f t=some t'->Rep A1 X1 h t w->Rep A X h t' w):∀{ts ts':List T}{vs:List V},ts.mapM f=some ts'->qN A1 X1 h ts vs->qN A X h ts' vs
 | [],ts',vs,e,r=>by cases mapM_nil e;unfold qN at r ⊢;exact r
 |t::ts,ts',vs,e,r=>by
  obtain⟨y,ys,e1,e2,rfl⟩:=mapM_cons e;unfold qN at r ⊢;obtain⟨v,vs',rfl,a,b⟩:=r;exact⟨v,vs',rfl,hf _ _ _ e1 a,jJ hf e2 b⟩
theorem E5(R:RelM gl (A++B) (X++B) h M1)(hB:∀b∈B,b∉X):∀(d:Nat) (t t':T) (w:V),qL M1 A.length d t=some t'->Rep (A++B) (X++B) h t w->Rep A X h t' w:=by
 have hu:∀(t:T) (w:V),t.und A.length=true->Rep (A++B) (X++B) h t w->Rep A X h t w:=λt w u r=>K6 (λn hn=>List.getElem?_append_left hn) (λa ha=>wE _ ha) t r u;have hX:∀a,a∉X++B->a∉X:=λa x z=>x (wE _ z);intro d
 induction d with
 |zero=>
  intro t t' w e r;unfold qL at e;split at e
  ·rename_i u;cases e;exact hu _ w u r
  ·cases e
 |succ d ih=>
  intro t t' w e r;unfold qL at e;split at e
  ·rename_i u;cases e;exact hu _ w u r
  ·rename_i u;cases t with
   |v x=>cases e
   |ob o=>cases e
   |fz ts=>cases e
   |lst ts=>
    obtain⟨ts',e1,rfl⟩:=Option.map_eq_some_iff.mp e;unfold Rep at r ⊢;obtain⟨a,vs,rfl,q1,q2,q3⟩:=r;exact⟨a,vs,rfl,hX a q1,q2,jJ ih e1 q3⟩
   |tup ts=>
    obtain⟨ts',e1,rfl⟩:=Option.map_eq_some_iff.mp e;unfold Rep at r ⊢;obtain⟨a,vs,rfl,q1,q2,q3⟩:=r;exact⟨a,vs,rfl,hX a q1,q2,jJ ih e1 q3⟩
   |cell n=>
    obtain⟨ts,e0,e⟩:=Option.bind_eq_some_iff.mp (show (M1[n]?).bind _=_ from e);obtain⟨ts',e1,rfl⟩:=Option.map_eq_some_iff.mp e;have hn:A.length<=n:=by
     unfold T.und at u;simpa using u
    unfold Rep at r ⊢;obtain⟨a,ea,rfl⟩:=r;obtain⟨ts2,vs,g1,g2,g3⟩:=R.at_ n a ea;rw[e0]at g1;cases g1;rw[List.getElem?_append_right hn]at ea;exact⟨a,vs,rfl,hB a (List.mem_of_getElem? ea),g2,jJ ih e1 g3⟩
mutual
theorem Zw(n:Nat):∀(t:T),t.lf=true->t.und n=true
 | .v x,_=>rfl
 | .cell _,l=>by unfold T.lf at l;cases l
 | .ob _,_=>rfl
 | .fz _,l=>by unfold T.lf at l;cases l
 | .lst _,l=>by unfold T.lf at l;cases l
 | .tup ts,l=>by unfold T.lf at l;unfold T.und;exact Qt n ts l
theorem Qt(n:Nat):∀(ts:List T),T.lfs ts=true->T.unds n ts=true
 | [],_=>rfl
 |t::ts,l=>by unfold T.lfs at l;rw[Bool.and_eq_true]at l;unfold T.unds;rw[Zw n t l.1,Qt n ts l.2];rfl
end
theorem P0{n0:Nat}{f:T->Option (List Nat)}(hf:∀t l,f t=some l->t.und n0=true->t.lf=true):∀{ts:List T}{ls:List (List Nat)},ts.mapM f=some ls->T.unds n0 ts=true->T.lfs ts=true
 | [],ls,e,u=>rfl
 |t::ts,ls,e,u=>by
  obtain⟨y,ys,e1,e2,rfl⟩:=mapM_cons e;unfold T.unds at u;rw[Bool.and_eq_true]at u;unfold T.lfs;rw[hf t _ e1 u.1,P0 hf e2 u.2];rfl
theorem Q8{n0:Nat}:∀(d:Nat) (t:T) (l:List Nat),zq M1 n0 d t=some l->t.und n0=true->t.lf=true:=by
 intro d
 induction d with
 |zero=>intro t l e u;unfold zq at e;split at e<;>first|assumption|cases e
 |succ d ih=>
  intro t l e u;unfold zq at e;split at e
  ·assumption
  ·cases t with
   |tup ts=>
    obtain⟨ls,e1,rfl⟩:=Option.map_eq_some_iff.mp e;unfold T.und at u;unfold T.lf;exact P0 ih e1 u
   |cell n=>
    dsimp only at e;split at e
    ·rename_i hn;unfold T.und at u;simp at u;omega
    ·cases e
   |v x=>cases e
   |ob o=>cases e
   |fz ts=>cases e
   |lst ts=>cases e
theorem ZQ{A1 X1:List Nat}{n0:Nat}{f:T->Option (List Nat)}{g:T->Option T}(hf:∀t l t' w,f t=some l->g t=some t'->Rep A1 X1 h t w->∃fp,FP X h t' w fp/\fp.map some=l.map (A1[·]?)/\∀n∈l,n0<=n):
  ∀{ts ts':List T}{ls:List (List Nat)}{vs:List V},ts.mapM f=some ls->ts.mapM g=some ts'->qN A1 X1 h ts vs->∃fp,FPs X h ts' vs fp/\fp.map some=ls.flatten.map (A1[·]?)/\∀n∈ls.flatten,n0<=n
 | [],ts',ls,vs,e,e',r=>by
  cases mapM_nil e;cases mapM_nil e';unfold qN at r;exact⟨[],by unfold FPs;exact⟨r,rfl⟩,rfl,λn hn=>by simp at hn⟩
 |t::ts,ts',ls,vs,e,e',r=>by
  obtain⟨y,ys,e1,e2,rfl⟩:=mapM_cons e;obtain⟨z,zs,e3,e4,rfl⟩:=mapM_cons e';unfold qN at r;obtain⟨v,vs',rfl,a,b⟩:=r;obtain⟨f1,p1,q1,n1⟩:=hf _ _ _ _ e1 e3 a;obtain⟨f2,p2,q2,n2⟩:=ZQ hf e2 e4 b;refine⟨f1++f2,by unfold FPs;exact⟨v,vs',f1,f2,rfl,p1,p2,rfl⟩,by simp[q1,q2],λn hn=>?_⟩;rw[List.flatten_cons]at hn;rcases wD.mp hn with z|z
  ·exact n1 n z
  ·exact n2 n z
theorem jt{n0:Nat}{d:Nat}{t t':T}(u:t.und n0=true)(e:qL M1 n0 d t=some t'):t'=t:=by
 cases d<;>(unfold qL at e;rw[if_pos u]at e;cases e;rfl)
theorem Y0(R:RelM gl (A++B) (X++B) h M1)(hB:∀b∈B,b∉X):∀(d:Nat) (t:T) (l:List Nat) (t':T) (w:V),zq M1 A.length d t=some l->qL M1 A.length d t=some t'->Rep (A++B) (X++B) h t w ->
  ∃fp,FP X h t' w fp/\fp.map some=l.map ((A++B)[·]?)/\∀n∈l,A.length<=n:=by
 have hX:∀a,a∉X++B->a∉X:=λa x z=>x (wE _ z);have lfc:∀{d:Nat}{t t':T}{w:V},t.lf=true->qL M1 A.length d t=some t'->Rep (A++B) (X++B) h t w->∃fp:List Nat,FP X h t' w fp/\fp.map some=([]:List Nat).map ((A++B)[·]?)/\∀n∈([]:List Nat),A.length<=n:=by
  intro d t t' w l e r;cases jt (Zw _ t l) e;exact⟨[],Qg (λa o x y=>⟨hX a x,y⟩) _ (qAa _ r l),rfl,λn hn=>by simp at hn⟩
 intro d
 induction d with
 |zero=>
  intro t l t' w e e' r;unfold zq at e;split at e
  ·rename_i hl;cases e;exact lfc hl e' r
  ·cases e
 |succ d ih=>
  intro t l t' w e e' r;unfold zq at e;split at e
  ·rename_i hl;cases e;exact lfc hl e' r
  ·rename_i hl;have hu:t.und A.length≠true:=λu=>hl (Q8 (M1:=M1) (d+1) t l (by unfold zq;rw[if_neg hl];exact e) u);unfold qL at e';rw[if_neg hu]at e';cases t with
   |tup ts=>
    obtain⟨ls,e1,rfl⟩:=Option.map_eq_some_iff.mp e;obtain⟨ts',e2,rfl⟩:=Option.map_eq_some_iff.mp e';unfold Rep at r;obtain⟨a,vs,rfl,q1,q2,q3⟩:=r;obtain⟨fp,p1,p2,p3⟩:=ZQ ih e1 e2 q3;exact⟨fp,by unfold FP;exact⟨a,vs,rfl,hX a q1,q2,p1⟩,p2,p3⟩
   |cell n=>
    dsimp only at e e';split at e
    ·rename_i hn;obtain⟨ts,e0,e⟩:=Option.bind_eq_some_iff.mp e;obtain⟨ls,e1,rfl⟩:=Option.map_eq_some_iff.mp e;rw[e0]at e';dsimp only[Option.bind_some]at e';obtain⟨ts',e2,rfl⟩:=Option.map_eq_some_iff.mp e';unfold Rep at r;obtain⟨a,ea,rfl⟩:=r;obtain⟨ts2,vs,g1,g2,g3⟩:=R.at_ n a ea;rw[e0]at g1;cases g1;obtain⟨fp,p1,p2,p3⟩:=ZQ ih e1 e2 g3;have ea2:=ea;rw[List.getElem?_append_right hn]at ea2;refine⟨fp++[a],by unfold FP;exact⟨a,vs,fp,rfl,hB a (List.mem_of_getElem? ea2),g2,p1,rfl⟩,?_,λm hm=>?_⟩
     ·rw[wz,wz,p2];simp[ea]
     ·rcases wD.mp hm with z|z
      ·exact p3 m z
      ·simp at z;omega
    ·cases e
   |v x=>cases e
   |ob o=>cases e
   |fz ts=>cases e
   |lst ts=>cases e
theorem ZH{X' Y:List Nat}(R:RelM gl (A++B) Y h M1)(hX:∀a∈X',a∈Y)(hA:∀a∈A,a∈X')(hc:(M1.take A.length).all (T.unds A.length)=true)(hg:∀(g:Nat) t,gl[g]?=some t->Rep A X' h t (.ref g)):RelM gl A X' h (M1.take A.length):=by
 have l:=R.len;rw[List.length_append]at l;refine⟨by rw[wU];omega,(wZ.mp R.nd).1,hA,λa ha=>R.lt a (hX a ha),λn a e=>?_,hg⟩;have hn:=(List.getElem?_eq_some_iff.mp e).1;obtain⟨ts,vs,e1,e2,e3⟩:=R.at_ n a (zY n a e);refine⟨ts,vs,by rw[wP hn];exact e1,e2,jK (λn hn=>List.getElem?_append_left hn) hX ts e3 ?_⟩;rw[wF]at hc;refine hc ts (List.mem_of_getElem? (i:=n) ?_);rw[wP hn];exact e1
theorem D6{M:Mem}{n0 d:Nat}{t:T}{o:Ob}(h:qL M n0 d t=some (.ob o)):t=.ob o:=by
 cases d with
 |zero=>
  unfold qL at h;split at h
  ·cases h;rfl
  ·cases h
 |succ d=>
  unfold qL at h;split at h
  ·cases h;rfl
  ·cases t with
   |lst ts=>cases hh:ts.mapM (qL M n0 d)<;>simp[hh]at h
   |tup ts=>cases hh:ts.mapM (qL M n0 d)<;>simp[hh]at h
   |cell n=>
    cases hm:M[n]? with
    |none=>simp[hm]at h
    |some ts=>cases hh:ts.mapM (qL M n0 d)<;>simp[hm,hh]at h
   |_=>cases h
theorem Za(R0:RelM gl A X h M)(f:Frm A h h')(hB:∀b∈B,h.length<=b)(R:RelM gl (A++B) (X++B) h' M1){x:TB}{w:V}(q:QE gl (A++B) (X++B) h.length x w h' M1):Sim gl A X h (QE gl A X h.length) (zG M.length x M1) (.ok (w,h')):=by
 have hBX:∀b∈B,b∉X:=λb z y=>by have:=hB b z;have:=R0.lt b y;omega
 have hX:∀a,a∉X++B->a∉X:=λa x z=>x (wE _ z);have hg:∀{Z:List Nat},(∀a∈Z,h.length<=a)->∀(g:Nat) t,gl[g]?=some t->Rep A (X++Z) h' t (.ref g):=λhZ g t e=>zL (λ_ _ e=>e) (λa o x y=>⟨by
   rw[wD];rintro(z|z)
   ·exact x z
   ·have:=hZ a z;have:=qM y;omega,(R0.keepN f a o x y).2⟩) t (R0.glo g t e)
 unfold zG;rw[<-R0.len];split
 ·rename_i hl;have hB0:B=[]:=by
   have:=R.len;rw[List.length_append,hl]at this;exact List.length_eq_zero_iff.mp (by omega)
  subst hB0;rw[List.append_nil,List.append_nil]at R q;exact⟨w,h',rfl,f,R,q⟩
 split
 ·rename_i hc;refine Sim.ofO λt' et=>?_;have R':RelM gl A X h' (M1.take A.length):=by
   have:=ZH (X':=X++[]) R (λa ha=>by simp at ha;exact wE _ ha) (λa ha=>by simp;exact R0.sub a ha) hc (hg λa ha=>by simp at ha);simpa using this
  refine⟨w,h',rfl,f,R',E5 R hBX 6 _ _ _ et q.1,λe=>?_⟩;rw[wq]at e;rcases e with e|e
  ·obtain⟨fp,p,nd,l,Rf,nw⟩:=q.2 e;cases jt (i9 A.length _ p) et;have cr:∀{Z:List Nat},(∀a∈Z,h.length<=a)->RelM gl (A++B) (X++B++Z) h' M1->RelM gl A (X++Z) h' (M1.take A.length):=λ{Z} hZ q=>ZH q (λa ha=>by
    rcases wD.mp ha with z|z
    ·exact wE _ (wE _ z)
    ·exact wH _ z) (λa ha=>wE _ (R0.sub a ha)) hc (hg hZ)
   exact⟨fp,Qg (λa o x y=>⟨hX a x,y⟩) _ p,nd,l,cr l Rf,λkvs e=>by
    obtain⟨a,q1,q2,q3⟩:=nw kvs e;exact⟨a,q1,q2,cr (λz hz=>by rw[List.mem_singleton.mp hz];exact q2) q3⟩⟩
  ·unfold frR at e;split at e
   ·rename_i l el;have ndl:l.Nodup:=by simpa using e
    obtain⟨fp,p,pm,pn⟩:=Y0 R hBX 6 _ _ _ _ el et q.1;have fB:∀a∈fp,a∈B:=λa ha=>by
     have:some a∈fp.map some:=List.mem_map_of_mem ha;rw[pm]at this;obtain⟨n,hn,en⟩:=we.mp this;rw[List.getElem?_append_right (pn n hn)]at en;exact List.mem_of_getElem? en
    have nd:fp.Nodup:=by
     have:(fp.map some).Nodup:=by
      rw[pm];refine List.pairwise_map.mpr (List.Pairwise.imp_of_mem ?_ ndl);intro n m hn hm hnm e;have:(A++B)[n]?∈fp.map some:=by rw[pm];exact List.mem_map_of_mem hn
      obtain⟨a,_,ea⟩:=we.mp this;exact hnm ((wt (List.getElem?_eq_some_iff.mp ea.symm).1 R.nd).mp e)
     exact(List.pairwise_map.mp this).imp λ{a b} z e=>z (by rw[e])
    refine⟨fp,p,nd,λa ha=>hB a (fB a ha),ZH R (λa ha=>?_) (λa ha=>wE _ (R0.sub a ha)) hc (hg λa ha=>hB a (fB a ha)),λkvs e=>by have e:t'=.ob (.dct kvs):=e;subst e;rw[D6 et]at el;simp[zq,T.lf]at el⟩;rcases wD.mp ha with z|z
    ·exact wE _ z
    ·exact wH _ (fB a z)
   ·cases e
 ·exact Sim.stuck
end
theorem qBt(gl:List T)(tb:List Fn)(Cs:List (List Nat)):∀(k f:Nat) (ts:List T) (ws:List V) (A X:List Nat) (h:AH) (M:Mem),RelM gl A X h M->qN A X h ts ws->Sim gl A X h (QE gl A X h.length) (Pk gl tb Cs k f ts M) (Fk tb k f ws h)
 | 0,f,ts,ws,A,X,h,M,R,rs=>Sim.stuck
 |k+1,f,ts,ws,A,X,h,M,R,rs=>by
  unfold Pk Fk;cases ed:tb[f]? with
  |none=>exact Sim.stuck
  |some d=>
   dsimp only;rw[<-qA (reps_iff.mp rs)];split
   ·have s:=Zb (Cs.getD f []) (qBt gl tb Cs k) d.body A X h M _ _ R (JF (d.nslot-d.npar) rs);revert s;generalize pxs gl (Pk gl tb Cs k) (Cs.getD f []) d.body (ts.map some++List.replicate (d.nslot-d.npar) none) M=r;generalize exs (Fk tb k) d.body (ws.map some++List.replicate (d.nslot-d.npar) none) h=rh;intro s;cases r with
    |stuck=>exact Sim.stuck
    |exc c M1=>
     obtain⟨h',B,rfl,f1,hB,R1⟩:=s;show Sim gl A X h _ (if _ then _ else if _ then _ else _) _;split
     ·rename_i hl;have hB0:B=[]:=by
       have:=R1.len;rw[List.length_append,hl,R.len]at this;exact List.length_eq_zero_iff.mp (by omega)
      subst hB0;rw[List.append_nil,List.append_nil]at R1;exact⟨h',rfl,f1,R1⟩
     split
     ·rename_i hc;refine⟨h',rfl,f1,?_⟩;rw[<-R.len]at hc ⊢;exact ZH R1 (λa ha=>wE _ ha) R.sub hc λg t e=>R.keep f1 (R.glo g t e)
     ·exact Sim.stuck
    |ok p=>
     obtain⟨o,M1⟩:=p;obtain⟨oh,h',B,rfl,f1,hB,R1,ro⟩:=s;rw[Res.bind_ok];cases o with
     |nx σ=>
      cases oh<;>first|exact ro.elim|skip
      have r:Rep (A++B) (X++B) h' (.v .non) .non:=by unfold Rep;exact⟨rfl,rfl⟩
      exact Za R f1 hB R1 (show QE gl (A++B) (X++B) h.length (.v .non,true) .non h' M1 from⟨r,λ_=>Frs.of_lf R1 r rfl⟩)
     |rt t=>
      cases oh<;>first|exact ro.elim|skip
      exact Za R f1 hB R1 ro
     |bk σ=>exact Sim.stuck
     |ct σ=>exact Sim.stuck
   ·exact Sim.stuck
noncomputable def glT(gs:List O):List T:=gs.map λo=>match o with | .tup xs=>.tup (xs.map .v) | .lst _ xs=>.fz (xs.map .v) | .ob _=>.v .non
noncomputable def qBo(gs:List O):Bool:=gs.all λo=>match o with | .tup xs=>xs.all flat|_=>false
theorem qB0{gs:List O}{tb:List Fn}{Cs:List (List Nat)}{k i:Nat}{ns:List Int}{b:Bool}{M':Mem}(hg:qBo gs=true)(e:Pk (glT gs) tb Cs k i [.fz (ns.map λn=>.v (.int n))] []=.ok ((.v (.bl true),b),M')):
  ∃h',Fk tb k i [.ref gs.length] (gs++[.lst true (ns.map V.int)])=.ok (.bl true,h'):=by
 have R:RelM (glT gs) [] [] (gs++[.lst true (ns.map V.int)]) []:=by
  refine⟨rfl,wu,λa ha=>by simp at ha,λa ha=>by simp at ha,λn a e=>by simp at e,λg t eg=>?_⟩;unfold glT at eg;rw[wK]at eg;obtain⟨o,eo,rfl⟩:=Option.map_eq_some_iff.mp eg;unfold qBo at hg;rw[wF]at hg;have ho:=hg o (List.mem_of_getElem? eo);cases o with
  |lst _ _=>cases ho
  |ob _=>cases ho
  |tup xs=>
   dsimp only;unfold Rep;exact⟨g,xs,rfl,by simp,by rw[List.getElem?_append_left (List.getElem?_eq_some_iff.mp eo).1];exact eo,QS ho⟩
 have rs:qN [] [] (gs++[O.lst true (ns.map V.int)]) [.fz (ns.map λn=>.v (.int n))] [.ref gs.length]:=by
  unfold qN;refine⟨_,[],rfl,?_,by unfold qN;rfl⟩;unfold Rep;refine⟨gs.length,ns.map V.int,rfl,by simp,by simp,?_⟩;have:ns.map (λn=>T.v (.int n))=(ns.map V.int).map .v:=by rw[wl];rfl
  rw[this];exact QS (by simp[flat])
 have s:=qBt (glT gs) tb Cs k i _ _ [] [] _ [] R rs;rw[e]at s;obtain⟨w,h',e1,_,_,q⟩:=s;cases zO q.1;exact⟨h',e1⟩
noncomputable def qDt(t:T):Option TB:=match t with | .v (.int i)=>some (iT (-i))|_=>none
noncomputable def n6(M:Mem)(p k x:T):Option Mem:=match p,k with
 | .cell n,.v (.int j)=>(M[n]?).bind λxs=>(L2.ixN xs.length j).map λj=>M.set n (xs.set j x)
 |_,_=>none
noncomputable def qAl(M:Mem)(n:Nat)(x:T):Option Mem:=(M[n]?).bind λxs=>if xs.length<lim then some (M.set n (xs++[x])) else none
noncomputable def qCX(t:T):Option (List T):=match t with | .v (.int j)=>if -1000000<=j/\j<=1000000 then some (zz 0 j.toNat) else none|_=>none
section
variable{gl:List T}{P:Nat->List T->Mem->PR (TB×Mem)}{C:List Nat}{σ:TS}{M:Mem}{a b c e:E}{as lo hi:Es}
@[simp] theorem pe_var(i:Nat):pe gl P (.var i) σ M=match σ[i]? with|some (some t)=>.ok ((t,t.lf),M)|_=>.stuck:=Eq.trans rfl rfl
@[simp] theorem pe_int(i:Int):pe gl P (.cst (.int i)) σ M=.ok (iT i,M):=Eq.trans rfl rfl
@[simp] theorem pe_bl(i:Bool):pe gl P (.cst (.bl i)) σ M=.ok (bT i,M):=Eq.trans rfl rfl
@[simp] theorem pe_non:pe gl P (.cst .non) σ M=.ok ((.v .non,true),M):=Eq.trans rfl rfl
@[simp] theorem pe_str(s:PySem.Str):pe gl P (.cst (.str s)) σ M=.ok ((.v (.str s),true),M):=Eq.trans rfl rfl
@[simp] theorem pe_glob(g:Nat):pe gl P (.glob g) σ M=match gl[g]? with|some t=>.ok ((t,t.lf),M)|none=>.stuck:=Eq.trans rfl rfl
@[simp] theorem qEZ(op:BOp):pe gl P (.bin op a b) σ M=(pe gl P a σ M).bind λp=>(pe gl P b σ p.2).bind λq=>(PR.ofO (zJ q.2 op p.1.1 q.1.1)).bind λr=>.ok (r,q.2):=Eq.trans rfl rfl
@[simp] theorem a8(op:COp):pe gl P (.cmp op a b) σ M=(pe gl P a σ M).bind λp=>(pe gl P b σ p.2).bind λq=>(PR.ofO (qe q.2 op p.1.1 q.1.1)).bind λr=>.ok (bT r,q.2):=Eq.trans rfl rfl
@[simp] theorem qC2(o1 o2:COp):pe gl P (.cmp2 o1 o2 a b c) σ M=(pe gl P a σ M).bind λp=>(pe gl P b σ p.2).bind λq=>(PR.ofO (qe q.2 o1 p.1.1 q.1.1)).bind λr=>
  if r=true then (pe gl P c σ q.2).bind λz=>(PR.ofO (qe z.2 o2 q.1.1 z.1.1)).bind λr=>.ok (bT r,z.2) else .ok (bT false,q.2):=Eq.trans rfl rfl
@[simp] theorem pe_and:pe gl P (.and a b) σ M=(pB (pe gl P a σ M)).bind λp=>if p.1=true then pe gl P b σ p.2 else .ok (bT false,p.2):=Eq.trans rfl rfl
@[simp] theorem pe_or:pe gl P (.or a b) σ M=(pB (pe gl P a σ M)).bind λp=>if p.1=true then .ok (bT true,p.2) else pe gl P b σ p.2:=Eq.trans rfl rfl
@[simp] theorem pe_not:pe gl P (.not a) σ M=(pB (pe gl P a σ M)).bind λp=>.ok (bT (!p.1),p.2):=Eq.trans rfl rfl
@[simp] theorem qEC:pe gl P (.ite c a b) σ M=(pB (pe gl P c σ M)).bind λp=>if p.1=true then pe gl P a σ p.2 else pe gl P b σ p.2:=Eq.trans rfl rfl
@[simp] theorem pe_call(f:Nat):pe gl P (.call f as) σ M=(pes gl P as σ M).bind λp=>(P f (p.1.map (·.1)) p.2).nx:=Eq.trans rfl rfl
@[simp] theorem qA3(f:BF):pe gl P (.blt f as) σ M=(pes gl P as σ M).bind λp=>(PR.ofO (zr p.2 f (p.1.map (·.1)))).bind λr=>.ok (r,p.2):=Eq.trans rfl rfl
@[simp] theorem qBA(ts:List String):pe gl P (.isi a ts) σ M=(pe gl P a σ M).bind λp=>(PR.ofO (zd p.2 p.1.1)).bind λt=>.ok (bT (ts.any (ze t)),p.2):=Eq.trans rfl rfl
@[simp] theorem qEd:pe gl P (.idx a b) σ M=(pe gl P a σ M).bind λp=>(pe gl P b σ p.2).bind λq=>(PR.ofO (Qe q.2 p.1.1 q.1.1)).bind λr=>.ok (r,q.2):=Eq.trans rfl rfl
@[simp] theorem qFG:pe gl P (.sl a lo hi) σ M=(pe gl P a σ M).bind λp=>(pes gl P lo σ p.2).bind λl=>(pes gl P hi σ l.2).bind λu=>
  (PR.ofO (p.1.1.its u.2)).bind λxs=>(PR.ofO (zX (l.1.map (·.1)))).bind λi=>(PR.ofO (zX (u.1.map (·.1)))).bind λj=>(PR.ofO (qAV p.1.1 xs i.head? j.head?)).bind λr=>.ok (r,u.2):=Eq.trans rfl rfl
@[simp] theorem pe_lst:pe gl P (.lst as) σ M=(pes gl P as σ M).bind λp=>if p.1.length<=lim then .ok ((.lst (p.1.map (·.1)),p.1.all (·.2)),p.2) else .stuck:=Eq.trans rfl rfl
@[simp] theorem pe_tup:pe gl P (.tup as) σ M=(pes gl P as σ M).bind λp=>if p.1.length<=lim then .ok ((.tup (p.1.map (·.1)),p.1.all (·.2)),p.2) else .stuck:=Eq.trans rfl rfl
@[simp] theorem pe_comp(it:Itr)(src:List (Option Nat))(g:Tg)(c:Es):pe gl P (.comp it src g c e) σ M=(pei gl P it σ M).bind λp=>qR p.1.2 g (pec gl P c) (pe gl P e) p.1.1 [] true (jc src σ) p.2:=Eq.trans rfl rfl
@[simp] theorem qD1:pe gl P (.app a b) σ M=(pe gl P a σ M).bind λp=>match p.1.1 with
  | .cell n=>(pe gl P b σ p.2).bind λq=>(PR.ofO (qAl q.2 n q.1.1)).bind λM'=>.ok ((.v .non,true),M')
  |_=>.stuck:=by
 show PR.bind _ _=_;dsimp only;congr 1;funext p;obtain⟨⟨p1,p3⟩,p2⟩:=p;dsimp only;cases p1<;>dsimp only;congr 1;funext q;obtain⟨⟨q1,q3⟩,q2⟩:=q;dsimp only;unfold qAl;rename_i n;cases h:q2[n]? with
 |none=>rfl
 |some xs=>
  dsimp only[Option.bind_some];split<;>rfl
@[simp] theorem qCu(m:Mt):pe gl P (.meth m a as) σ M=(pe gl P a σ M).bind λp=>match p.1.1 with
  | .cell n=>(pes gl P as σ p.2).bind λq=>PR.ofO (JC m n (q.1.map (·.1)) q.2)
  |_=>.stuck:=Eq.trans rfl rfl
@[simp] theorem qDA:pe gl P .dnew σ M=.ok ((.ob (.dct []),true),M):=Eq.trans rfl rfl
@[simp] theorem qAB:pes gl P .nil σ M=.ok ([],M):=Eq.trans rfl rfl
@[simp] theorem V1:pes gl P (.cons a as) σ M=(pe gl P a σ M).bind λp=>(pes gl P as σ p.2).bind λq=>.ok (p.1::q.1,q.2):=Eq.trans rfl rfl
@[simp] theorem qg:pec gl P .nil σ M=.ok (true,M):=Eq.trans rfl rfl
@[simp] theorem jH:pec gl P (.cons a as) σ M=pB (pe gl P a σ M):=Eq.trans rfl rfl
@[simp] theorem X0:pei gl P (.list a) σ M=(pe gl P a σ M).bind λp=>(PR.ofO (ZR p.2 p.1.1)).bind λs=>.ok (s,p.2):=Eq.trans rfl rfl
@[simp] theorem qCU:pei gl P (.rng1 a) σ M=(pe gl P a σ M).bind λp=>(PR.ofO (qCX p.1.1)).bind λxs=>.ok ((xs,[]),p.2):=by
 show PR.bind _ _=_;dsimp only;congr 1;funext p;obtain⟨⟨p1,p3⟩,p2⟩:=p;dsimp only;unfold qCX;cases p1<;>first|rfl|skip
 rename_i x;cases x<;>first|rfl|skip
 dsimp only;split<;>rfl
@[simp] theorem qDM:pei gl P (.zip a b) σ M=(pe gl P a σ M).bind λp=>(pe gl P b σ p.2).bind λq=>(PR.ofO (D9 q.2 p.1.1)).bind λs=>(PR.ofO (D9 q.2 q.1.1)).bind λt=>
  .ok ((List.zipWith (λa b=>T.tup [a,b]) s.1 t.1,s.2++t.2),q.2):=Eq.trans rfl rfl
@[simp] theorem qCR:pei gl P (.enum a) σ M=(pe gl P a σ M).bind λp=>(PR.ofO (D9 p.2 p.1.1)).bind λs=>.ok ((jR 0 s.1,s.2),p.2):=Eq.trans rfl rfl
variable{s:S}{r t u:Ss}
@[simp] theorem qAd(i:Nat):px gl P C (.asg (.name i) e) σ M=(pe gl P e σ M).bind λp=>if (C.contains i&&p.1.2)=true then .ok (.nx (σ.set i (some (thaw p.2.length p.1.1).1)),p.2++(thaw p.2.length p.1.1).2) else if (C.contains (i+1000)&&qBh e)=true then (match p.1.1 with | .lst ts=>.ok (.nx (σ.set i (some (.cell p.2.length))),p.2++[ts])|_=>.stuck) else .ok (.nx (σ.set i (some p.1.1)),p.2):=Eq.trans rfl rfl
@[simp] theorem qEY(is:List Nat):px gl P C (.asg (.tup is) e) σ M=(pe gl P e σ M).bind λp=>match qt (.tup is) p.1.1 σ with|some σ1=>.ok (.nx σ1,p.2)|none=>.stuck:=Eq.trans rfl rfl
@[simp] theorem qEa{o i v:E}:px gl P C (.put o i v) σ M=(pe gl P v σ M).bind λx=>(pe gl P o σ x.2).bind λp=>(pe gl P i σ p.2).bind λk=>(PR.ofO (n6 k.2 p.1.1 k.1.1 x.1.1)).bind λM'=>.ok (.nx σ,M'):=by
 show PR.bind _ _=_;dsimp only;congr 1;funext x;congr 1;funext p;congr 1;funext k;obtain⟨⟨k1,k3⟩,k2⟩:=k;obtain⟨⟨p1,p3⟩,p2⟩:=p;dsimp only;unfold n6;cases p1<;>first|rfl|skip
 rename_i n;cases k1<;>first|rfl|skip
 rename_i y;cases y<;>first|rfl|skip
 rename_i j;dsimp only;cases h:k2[n]? with
 |none=>rfl
 |some xs=>
  dsimp only[Option.bind_some];have hj:PI.ixN xs.length j=L2.ixN xs.length j:=rfl;rw[hj];cases L2.ixN xs.length j with
  |none=>rfl
  |some j=>rfl
@[simp] theorem qC9:px gl P C (.expr e) σ M=(pe gl P e σ M).bind λp=>.ok (.nx σ,p.2):=Eq.trans rfl rfl
@[simp] theorem qAm:px gl P C (.ret e) σ M=(pe gl P e σ M).bind λp=>.ok (.rt p.1,p.2):=Eq.trans rfl rfl
@[simp] theorem qDx:px gl P C (.ifs c t u) σ M=(pB (pe gl P c σ M)).bind λp=>if p.1=true then pxs gl P C t σ p.2 else pxs gl P C u σ p.2:=Eq.trans rfl rfl
@[simp] theorem qDk(g:Tg)(it:Itr):px gl P C (.for_ g it t) σ M=(pei gl P it σ M).bind λp=>qq p.1.2 g (pxs gl P C t) p.1.1 σ p.2:=Eq.trans rfl rfl
@[simp] theorem qCV(f:Nat):px gl P C (.xexpr f as) σ M=(pes gl P as σ M).bind λp=>(P f (p.1.map (·.1)) p.2).bind λq=>.ok (.nx σ,q.2):=Eq.trans rfl rfl
@[simp] theorem qCY(c:Nat):px gl P C (.raise c) σ M=.exc c M:=Eq.trans rfl rfl
theorem R6(b:S)(j i m:Nat)(ks:List Nat):px gl P C (.tryK b j i m ks) σ M=match px gl P C b σ M with
  | .exc c M1=>if c<m then .ok (.nx ((σ.set i (some (.lst (ks.map λk=>.v (.bl (QY c k)))))).set j none),M1) else .stuck
  |r=>r:=Eq.trans rfl rfl
@[simp] theorem qC7(i f:Nat):px gl P C (.xasg i f as) σ M=(pes gl P as σ M).bind λp=>(P f (p.1.map (·.1)) p.2).bind λq=>if (C.contains i&&q.1.2)=true then .ok (.nx (σ.set i (some (thaw q.2.length q.1.1).1)),q.2++(thaw q.2.length q.1.1).2) else .ok (.nx (σ.set i (some q.1.1)),q.2):=Eq.trans rfl rfl
@[simp] theorem qCf(f:Nat):px gl P C (.xret f as) σ M=(pes gl P as σ M).bind λp=>(P f (p.1.map (·.1)) p.2).bind λq=>.ok (.rt q.1,q.2):=Eq.trans rfl rfl
@[simp] theorem qEP(o:COp)(f:Nat):px gl P C (.xrn o f as) σ M=(pes gl P as σ M).bind λp=>(P f (p.1.map (·.1)) p.2).bind λq=>(PR.ofO (qe q.2 o q.1.1 (.v .non))).bind λr=>.ok (.rt (bT r),q.2):=Eq.trans rfl rfl
@[simp] theorem qCw:px gl P C .stop σ M=.stuck:=Eq.trans rfl rfl
@[simp] theorem qCy:pxs gl P C .nil σ M=.ok (.nx σ,M):=Eq.trans rfl rfl
@[simp] theorem B9:pxs gl P C (.cons s r) σ M=(px gl P C s σ M).bind λp=>match p.1 with
  | .nx σ1=>pxs gl P C r σ1 p.2
  |o=>.ok (o,p.2):=Eq.trans rfl rfl
@[simp] theorem qFL(x:Bool):pB (.ok (bT x,M))=.ok (x,M):=Eq.trans rfl rfl
@[simp] theorem qF3(x f:Bool):pB (.ok ((T.v (.bl x),f),M))=.ok (x,M):=Eq.trans rfl rfl
@[simp] theorem qCO:pB .stuck=.stuck:=Eq.trans rfl rfl
@[simp] theorem bind_exc{α β:Type}(c:Nat)(M:Mem)(f:α->PR β):(PR.exc c M:PR α).bind f=.exc c M:=Eq.trans rfl rfl
end
@[simp] theorem qFm(x:V):T.lf (.v x)=true:=by rw[T.lf]
@[simp] theorem jS(n:Nat):T.lf (.cell n)=false:=by rw[T.lf]<;>simp
@[simp] theorem qDv(xs:List T):T.lf (.lst xs)=false:=by rw[T.lf]<;>simp
@[simp] theorem qDi(xs:List T):T.lf (.tup xs)=T.lfs xs:=by rw[T.lf]
@[simp] theorem qCo:T.lfs []=true:=by rw[T.lfs]
@[simp] theorem jq(x:T)(xs:List T):T.lfs (x::xs)=(x.lf&&T.lfs xs):=by rw[T.lfs]
@[simp] theorem iT1(i:Int):(iT i).1=.v (.int i):=rfl
@[simp] theorem iT2(i:Int):(iT i).2=true:=rfl
@[simp] theorem bT1(i:Bool):(bT i).1=.v (.bl i):=rfl
@[simp] theorem bT2(i:Bool):(bT i).2=true:=rfl
@[simp] theorem lT1(xs:List T):(lT xs).1=.lst xs:=rfl
@[simp] theorem lT2(xs:List T):(lT xs).2=T.lfs xs:=rfl
@[simp] theorem qFM(x:V):T.isV (.v x)=some x:=rfl
@[simp] theorem qC6(x:List T):T.isV (.lst x)=none:=rfl
@[simp] theorem qC3(x:List T):T.isV (.tup x)=none:=rfl
@[simp] theorem qCS(x:Nat):T.isV (.cell x)=none:=rfl
section
variable{M:Mem}(i j:Int) (xs ys:List T)
@[simp] theorem qD7:zJ M .add (.v (.int i)) (.v (.int j))=some (iT (i+j)):=rfl
@[simp] theorem qBZ:zJ M .sub (.v (.int i)) (.v (.int j))=some (iT (i-j)):=rfl
@[simp] theorem qAf:zJ M .band (.v (.int i)) (.v (.int j))=some (iT (PySem.Builtin.bitAnd i j)):=rfl
theorem qAv{i j:Int}(h:(-18446744073709551616<i/\i<18446744073709551616)\/(-18446744073709551616<j/\j<18446744073709551616)):zJ M .mul (.v (.int i)) (.v (.int j))=some (iT (i*j)):=by
 show (if (ji i||ji j||(mid i&&mid j))=true then _ else _)=_;rw[if_pos];rcases h with h|h
 ·have:ji i=true:=by unfold ji two64;exact vE h
  rw[this];rfl
 ·have:ji j=true:=by unfold ji two64;exact vE h
  rw[this,Bool.or_true];rfl
theorem y7{i j:Int}(h:0<j/\j<1073741824):zJ M .fdiv (.v (.int i)) (.v (.int j))=some (iT (i / j)):=by
 show (if 0<j/\(j<1073741824\/mid j=true) then _ else _)=_;rw[if_pos ⟨h.1,.inl h.2⟩]
theorem Z0{i j:Int}(h:0<j):zJ M .mod (.v (.int i)) (.v (.int j))=some (iT (i % j)):=by
 show (if 0<j then _ else _)=_;rw[if_pos h]
theorem Z4{i j:Int}(h:0<=j/\j<=1000/\i.natAbs<18446744073709551616):zJ M .pow (.v (.int i)) (.v (.int j))=some (iT (i ^ j.toNat)):=by
 show (if 0<=j/\j<=1000/\i.natAbs<18446744073709551616 then _ else _)=_;rw[if_pos h]
theorem qB5{i j:Int}(h:0<=j/\j<=1000/\i.natAbs<18446744073709551616):zJ M .shl (.v (.int i)) (.v (.int j))=some (iT (i*2 ^ j.toNat)):=by
 show (if 0<=j/\j<=1000/\i.natAbs<18446744073709551616 then _ else _)=_;rw[if_pos h]
theorem qAr{xs ys:List T}(h:xs.length+ys.length<=lim):zJ M .add (.lst xs) (.lst ys)=some (lT (xs++ys)):=by
 show (if xs.length+ys.length<=lim then _ else _)=_;rw[if_pos h]
@[simp] theorem qCk:qe M .lt (.v (.int i)) (.v (.int j))=some (decide (i<j)):=rfl
@[simp] theorem qDU:qe M .le (.v (.int i)) (.v (.int j))=some (decide (i<=j)):=rfl
@[simp] theorem qDD:qe M .gt (.v (.int i)) (.v (.int j))=some (decide (j<i)):=rfl
@[simp] theorem qCm:qe M .ge (.v (.int i)) (.v (.int j))=some (decide (j<=i)):=rfl
@[simp] theorem qDF:qe M .eq (.v (.int i)) (.v (.int j))=some (decide (i=j)):=by
 show some (i==j)=_;congr 1
@[simp] theorem qEF:zr M .list [.lst xs]=some (lT xs):=rfl
@[simp] theorem qDs:zr M .list [.tup xs]=some (lT xs):=rfl
@[simp] theorem qB1:zr M .max [.v (.int i),.v (.int j)]=some (iT (if j>i then j else i)):=rfl
@[simp] theorem qAs:zr M .min [.v (.int i),.v (.int j)]=some (iT (if j<i then j else i)):=rfl
@[simp] theorem qFA:zr M .int [.v (.int i)]=some (iT i):=rfl
@[simp] theorem qF1:zd M (.v (.int i))=some "int":=rfl
@[simp] theorem qFn(b:Bool):zd M (.v (.bl b))=some "bool":=rfl
@[simp] theorem qFr:zd M (.lst xs)=some "list":=rfl
@[simp] theorem qFs:zd M (.tup xs)=some "tuple":=rfl
@[simp] theorem qFy(kvs:List (Int×V)):zd M (.ob (.dct kvs))=some "dict":=rfl
@[simp] theorem qFw:zd M (.v .non)=some "NoneType":=rfl
@[simp] theorem qDo:ZR M (.lst xs)=some (xs,[]):=rfl
@[simp] theorem qEK:ZR M (.tup xs)=some (xs,[]):=rfl
@[simp] theorem qDh:ZR M (.fz xs)=some (xs,[]):=rfl
@[simp] theorem qEU:D9 M (.lst xs)=some (xs,[]):=rfl
end
@[simp] theorem lk0{α:Type}(x0:α)(l:List α):(x0::l)[0]?=some x0:=rfl
@[simp] theorem st0{α:Type}(x0 y:α)(l:List α):(x0::l).set 0 y=y::l:=rfl
@[simp] theorem lk1{α:Type}(x0 x1:α)(l:List α):(x0::x1::l)[1]?=some x1:=rfl
@[simp] theorem st1{α:Type}(x0 x1 y:α)(l:List α):(x0::x1::l).set 1 y=x0::y::l:=rfl
@[simp] theorem lk2{α:Type}(x0 x1 x2:α)(l:List α):(x0::x1::x2::l)[2]?=some x2:=rfl
@[simp] theorem st2{α:Type}(x0 x1 x2 y:α)(l:List α):(x0::x1::x2::l).set 2 y=x0::x1::y::l:=rfl
@[simp] theorem lk3{α:Type}(x0 x1 x2 x3:α)(l:List α):(x0::x1::x2::x3::l)[3]?=some x3:=rfl
@[simp] theorem st3{α:Type}(x0 x1 x2 x3 y:α)(l:List α):(x0::x1::x2::x3::l).set 3 y=x0::x1::x2::y::l:=rfl
@[simp] theorem lk4{α:Type}(x0 x1 x2 x3 x4:α)(l:List α):(x0::x1::x2::x3::x4::l)[4]?=some x4:=rfl
@[simp] theorem st4{α:Type}(x0 x1 x2 x3 x4 y:α)(l:List α):(x0::x1::x2::x3::x4::l).set 4 y=x0::x1::x2::x3::y::l:=rfl
@[simp] theorem lk5{α:Type}(x0 x1 x2 x3 x4 x5:α)(l:List α):(x0::x1::x2::x3::x4::x5::l)[5]?=some x5:=rfl
@[simp] theorem st5{α:Type}(x0 x1 x2 x3 x4 x5 y:α)(l:List α):(x0::x1::x2::x3::x4::x5::l).set 5 y=x0::x1::x2::x3::x4::y::l:=rfl
@[simp] theorem lk6{α:Type}(x0 x1 x2 x3 x4 x5 x6:α)(l:List α):(x0::x1::x2::x3::x4::x5::x6::l)[6]?=some x6:=rfl
@[simp] theorem st6{α:Type}(x0 x1 x2 x3 x4 x5 x6 y:α)(l:List α):(x0::x1::x2::x3::x4::x5::x6::l).set 6 y=x0::x1::x2::x3::x4::x5::y::l:=rfl
@[simp] theorem lk7{α:Type}(x0 x1 x2 x3 x4 x5 x6 x7:α)(l:List α):(x0::x1::x2::x3::x4::x5::x6::x7::l)[7]?=some x7:=rfl
@[simp] theorem st7{α:Type}(x0 x1 x2 x3 x4 x5 x6 x7 y:α)(l:List α):(x0::x1::x2::x3::x4::x5::x6::x7::l).set 7 y=x0::x1::x2::x3::x4::x5::x6::y::l:=rfl
@[simp] theorem lk8{α:Type}(x0 x1 x2 x3 x4 x5 x6 x7 x8:α)(l:List α):(x0::x1::x2::x3::x4::x5::x6::x7::x8::l)[8]?=some x8:=rfl
@[simp] theorem st8{α:Type}(x0 x1 x2 x3 x4 x5 x6 x7 x8 y:α)(l:List α):(x0::x1::x2::x3::x4::x5::x6::x7::x8::l).set 8 y=x0::x1::x2::x3::x4::x5::x6::x7::y::l:=rfl
@[simp] theorem lk9{α:Type}(x0 x1 x2 x3 x4 x5 x6 x7 x8 x9:α)(l:List α):(x0::x1::x2::x3::x4::x5::x6::x7::x8::x9::l)[9]?=some x9:=rfl
@[simp] theorem st9{α:Type}(x0 x1 x2 x3 x4 x5 x6 x7 x8 x9 y:α)(l:List α):(x0::x1::x2::x3::x4::x5::x6::x7::x8::x9::l).set 9 y=x0::x1::x2::x3::x4::x5::x6::x7::x8::y::l:=rfl
@[simp] theorem qFo{α:Type}(x0 x1 x2 x3 x4 x5 x6 x7 x8 x9 x10:α)(l:List α):(x0::x1::x2::x3::x4::x5::x6::x7::x8::x9::x10::l)[10]?=some x10:=rfl
@[simp] theorem qFp{α:Type}(x0 x1 x2 x3 x4 x5 x6 x7 x8 x9 x10 y:α)(l:List α):(x0::x1::x2::x3::x4::x5::x6::x7::x8::x9::x10::l).set 10 y=x0::x1::x2::x3::x4::x5::x6::x7::x8::x9::y::l:=rfl
@[simp] theorem qFz{α:Type}(x0 x1 x2 x3 x4 x5 x6 x7 x8 x9 x10 x11:α)(l:List α):(x0::x1::x2::x3::x4::x5::x6::x7::x8::x9::x10::x11::l)[11]?=some x11:=rfl
@[simp] theorem qFl{α:Type}(x0 x1 x2 x3 x4 x5 x6 x7 x8 x9 x10 x11 y:α)(l:List α):(x0::x1::x2::x3::x4::x5::x6::x7::x8::x9::x10::x11::l).set 11 y=x0::x1::x2::x3::x4::x5::x6::x7::x8::x9::x10::y::l:=rfl
@[simp] theorem qF6{α:Type}(x0 x1 x2 x3 x4 x5 x6 x7 x8 x9 x10 x11 x12:α)(l:List α):(x0::x1::x2::x3::x4::x5::x6::x7::x8::x9::x10::x11::x12::l)[12]?=some x12:=rfl
@[simp] theorem qFt{α:Type}(x0 x1 x2 x3 x4 x5 x6 x7 x8 x9 x10 x11 x12 y:α)(l:List α):(x0::x1::x2::x3::x4::x5::x6::x7::x8::x9::x10::x11::x12::l).set 12 y=x0::x1::x2::x3::x4::x5::x6::x7::x8::x9::x10::x11::y::l:=rfl
@[simp] theorem qF4{α:Type}(x0 x1 x2 x3 x4 x5 x6 x7 x8 x9 x10 x11 x12 x13:α)(l:List α):(x0::x1::x2::x3::x4::x5::x6::x7::x8::x9::x10::x11::x12::x13::l)[13]?=some x13:=rfl
@[simp] theorem qF5{α:Type}(x0 x1 x2 x3 x4 x5 x6 x7 x8 x9 x10 x11 x12 x13 y:α)(l:List α):(x0::x1::x2::x3::x4::x5::x6::x7::x8::x9::x10::x11::x12::x13::l).set 13 y=x0::x1::x2::x3::x4::x5::x6::x7::x8::x9::x10::x11::x12::y::l:=rfl
@[simp] theorem qF0{α:Type}(x0 x1 x2 x3 x4 x5 x6 x7 x8 x9 x10 x11 x12 x13 x14:α)(l:List α):(x0::x1::x2::x3::x4::x5::x6::x7::x8::x9::x10::x11::x12::x13::x14::l)[14]?=some x14:=rfl
@[simp] theorem qFv{α:Type}(x0 x1 x2 x3 x4 x5 x6 x7 x8 x9 x10 x11 x12 x13 x14 y:α)(l:List α):(x0::x1::x2::x3::x4::x5::x6::x7::x8::x9::x10::x11::x12::x13::x14::l).set 14 y=x0::x1::x2::x3::x4::x5::x6::x7::x8::x9::x10::x11::x12::x13::y::l:=rfl
@[simp] theorem qFk{α:Type}(x0 x1 x2 x3 x4 x5 x6 x7 x8 x9 x10 x11 x12 x13 x14 x15:α)(l:List α):(x0::x1::x2::x3::x4::x5::x6::x7::x8::x9::x10::x11::x12::x13::x14::x15::l)[15]?=some x15:=rfl
@[simp] theorem qF2{α:Type}(x0 x1 x2 x3 x4 x5 x6 x7 x8 x9 x10 x11 x12 x13 x14 x15 y:α)(l:List α):(x0::x1::x2::x3::x4::x5::x6::x7::x8::x9::x10::x11::x12::x13::x14::x15::l).set 15 y=x0::x1::x2::x3::x4::x5::x6::x7::x8::x9::x10::x11::x12::x13::x14::y::l:=rfl
theorem qU{gl:List T}{tb:List Fn}{Cs:List (List Nat)}{k f:Nat}{vs:List T}{M:Mem}{np ns:Nat}{b:Ss}(ht:tb[f]?=some ⟨np,ns,b⟩)(hl:vs.length=np/\np<=ns)(hk:1<=k):
  Pk gl tb Cs k f vs M=ZJ M.length (pxs gl (Pk gl tb Cs (k-1)) (Cs.getD f []) b (vs.map some++List.replicate (ns-np) none) M):=by
 obtain⟨k,rfl⟩:∃j,k=j+1:=⟨k-1,by omega⟩
 rw[Pk,ht];dsimp only;rw[if_pos hl];rfl
theorem qJ{M M1:Mem}{t:TB}(h:M1.length=M.length):ZJ M.length (.ok (.rt t,M1))=.ok (t,M1):=by
 show zG M.length t M1=_;unfold zG;rw[if_pos h]
theorem X3{M M1:Mem}{σ:TS}(h:M1.length=M.length):ZJ M.length (.ok (.nx σ,M1))=.ok ((.v .non,true),M1):=by
 show zG M.length _ M1=_;unfold zG;rw[if_pos h]
noncomputable def N(n:Nat):T:=.v (.int (n:Int))
noncomputable def NL(L:List Nat):T:=.lst (L.map N)
theorem v8(n:Nat):zz 0 n=(List.range n).map N:=by
 unfold zz N;simp
theorem Zm(L:List Nat):T.lfs (L.map N)=true:=by
 induction L with
 |nil=>rfl
 |cons x L ih=>rw[List.map_cons,jq,ih];rfl
theorem qEv(n:Nat):(N n).lf=true:=by unfold N;rfl
theorem Zp:∀L:List Nat,jE (L.map N)=some (L.map λ(n:Nat)=>V.int (n:Int))
 | []=>rfl
 |x::L=>by
  show (jE (L.map N)).map _=_;rw[Zp L];rfl
theorem qCh{M:Mem}(n:Nat)(L:List Nat):qe M .inn (N n) (NL L)=some (decide (n∈L)):=by
 show ((jE (L.map N)).map λxs=>xs.any λz=>L2.eqV z (.int (n:Int)))=_;rw[Zp,Option.map_some,List.any_map];congr 1;rw[wa];simp only[List.any_eq_true,Function.comp,vF];constructor
 ·rintro⟨x,hx,e⟩;have:x=n:=by
   have e':((x:Int)==(n:Int))=true:=e;rw[beq_iff_eq]at e';omega
  rwa [<-this]
 ·intro h;refine⟨n,h,?_⟩;show ((n:Int)==(n:Int))=true;rw[vI]
theorem Jd{M:Mem}(n:Nat)(L:List Nat):qe M .notin (N n) (NL L)=some (!decide (n∈L)):=by
 have:=qCh (M:=M) n L;show (inT M (N n) (NL L)).map (!·)=_;rw[show inT M (N n) (NL L)=some (decide (n∈L)) from this];rfl
theorem A9{M:Mem}{d:Nat}:∀(L K:List Nat),L.length=K.length->qi (eqT M d) (L.map N) (K.map N)=some (List.zipWith (λ(a b:Nat)=>decide (a=b)) L K)
 | [],[],_=>rfl
 | [],_::_,h=>by simp at h
 |_::_,[],h=>by simp at h
 |a::L,b::K,h=>by
  have e:eqT M d (N a) (N b)=some (decide (a=b)):=by
   have:eqF (.int (a:Int)) (.int (b:Int))=some (decide (a=b)):=by
    show some ((a:Int)==(b:Int))=_;congr 1;rw[wa,beq_iff_eq,vF];omega
   cases d<;>(unfold eqT;exact this)
  rw[List.map_cons,List.map_cons,qi,e,A9 L K (by simpa using h)];rfl
theorem S2:∀(L K:List Nat),L.length=K.length->((List.zipWith (λ(a b:Nat)=>decide (a=b)) L K).all id=decide (L=K))
 | [],[],_=>rfl
 | [],_::_,h=>by simp at h
 |_::_,[],h=>by simp at h
 |a::L,b::K,h=>by
  rw[List.zipWith_cons_cons,List.all_cons,S2 L K (by simpa using h)];by_cases h1:a=b<;>by_cases h2:L=K<;>simp[h1,h2]
theorem P4{M:Mem}{d:Nat}(L K:List Nat):eqT M (d+1) (NL L) (NL K)=some (decide (L=K)):=by
 unfold eqT;show (if (L.map N).length=(K.map N).length then (qi (eqT M d) (L.map N) (K.map N)).map (λbs=>bs.all id) else some false)=_;rw[wL,wL];by_cases h:L.length=K.length
 ·rw[if_pos h,A9 L K h,Option.map_some,S2 L K h]
 ·rw[if_neg h];congr 1;symm;exact vD (λe=>h (by rw[e]))
theorem R9{M:Mem}(L:List Nat):zr M .list [NL L]=some (NL L,true):=by
 show some (T.lst (L.map N),T.lfs (L.map N))=_;rw[Zm];rfl
@[simp] theorem qBl{d:jh}{g:Tg}{b:TS->Mem->RSt}{σ:TS}{M:Mem}:qq d g b [] σ M=.ok (.nx σ,M):=rfl
@[simp] theorem zI{i:Nat}{b:TS->Mem->RSt}{x:T}{r:List T}{σ:TS}{M:Mem}:qq [] (.name i) b (x::r) σ M=(b (σ.set i (some x)) M).bind λp=>match p.1 with
   | .nx σ2=>qq [] (.name i) b r σ2 p.2
   | .ct σ2=>qq [] (.name i) b r σ2 p.2
   | .bk σ2=>.ok (.nx σ2,p.2)
   | .rt t=>.ok (.rt t,p.2):=rfl
theorem Qk{c:TS->Mem->PR (Bool×Mem)}{e:TS->Mem->PR (TB×Mem)}{M:Mem}{σ:TS}(p:Nat->Bool)(f:Nat->T)(fr:Nat->Bool):∀(its:List Nat) (ys:List T) (b:Bool) (o:Option T),ys.length+its.length<=lim ->
  (∀x∈its,c (some (N x)::σ) M=.ok (p x,M))->(∀x∈its,p x=true->e (some (N x)::σ) M=.ok ((f x,fr x),M)) ->
  qR [] (.name 0) c e (its.map N) ys b (o::σ) M=.ok ((.lst (ys++(its.filter p).map f),b&&(its.filter p).all fr),M)
 | [],ys,b,o,hl,hc,he=>by simp[qR]
 |x::r,ys,b,o,hl,hc,he=>by
  rw[List.map_cons];unfold qR;rw[show qt (.name 0) (N x) (o::σ)=some (some (N x)::σ) from rfl];dsimp only;rw[hc x (List.mem_cons_self ..)];rw[PR.bind_ok];dsimp only;cases hp:p x with
  |true=>
   rw[if_pos rfl,he x (List.mem_cons_self ..) hp,PR.bind_ok];dsimp only;rw[if_pos ⟨by simp at hl;omega,rfl⟩];rw[Qk p f fr r (ys++[f x]) (b&&fr x) (some (N x)) (by simp at hl ⊢;omega) (λy hy=>hc y (List.mem_cons_of_mem _ hy)) (λy hy=>he y (List.mem_cons_of_mem _ hy))];rw[List.filter_cons_of_pos hp];simp[Bool.and_assoc]
  |false=>
   rw[if_neg (by decide),if_pos (show qd [] M=true from rfl)];rw[Qk p f fr r ys b (some (N x)) (by simp at hl ⊢;omega) (λy hy=>hc y (List.mem_cons_of_mem _ hy)) (λy hy=>he y (List.mem_cons_of_mem _ hy))];rw[wj (by rw[hp];decide)]
theorem ZA{c:TS->Mem->PR (Bool×Mem)}{e:TS->Mem->PR (TB×Mem)}{M:Mem}{σ:TS}{o:Option T}{its:List Nat}(p:Nat->Bool)(g:Nat->Nat)(hl:its.length<=lim)
  (hc:∀x∈its,c (some (N x)::σ) M=.ok (p x,M)) (he:∀x∈its,p x=true->e (some (N x)::σ) M=.ok ((N (g x),true),M)):
  qR [] (.name 0) c e (its.map N) [] true (o::σ) M=.ok ((NL ((its.filter p).map g),true),M):=by
 rw[Qk p (λx=>N (g x)) (λ_=>true) its [] true o (by simpa using hl) hc he];unfold NL;simp
 all_goals rfl
@[simp] theorem qAt{M:Mem}(a b:Nat):zJ M .add (N a) (N b)=some (N (a+b),true):=by unfold N;simp[iT]
theorem jC(L:List Nat):T.lf (NL L)=false:=by unfold NL;simp
noncomputable def nE(n:Nat):E:=.cst (.int (n:Int))
@[simp] theorem qEh{gl:List T}{P:Nat->List T->Mem->PR (TB×Mem)}{σ:TS}{M:Mem}(n:Nat):pe gl P (nE n) σ M=.ok ((N n,true),M):=by unfold nE;rw[pe_int];rfl
section
variable{M:Mem}(a b:Nat) (xs:List T)
@[simp] theorem lfN:(N a).lf=true:=qEv a
@[simp] theorem qFE:(N a).isV=some (.int (a:Int)):=rfl
@[simp] theorem qFq:zd M (N a)=some "int":=rfl
@[simp] theorem qFD(L:List Nat):zd M (NL L)=some "list":=rfl
theorem qCI{a b:Nat}(h:b<=a):zJ M .sub (N a) (N b)=some (N (a-b),true):=by
 unfold N;rw[qBZ];unfold iT;rw[Int.ofNat_sub h]
theorem Zl{a b:Nat}(h:a<18446744073709551616\/b<18446744073709551616):zJ M .mul (N a) (N b)=some (N (a*b),true):=by
 unfold N;rw[qAv (by omega)];unfold iT;simp
theorem JI{a b:Nat}(h:0<b/\b<1073741824):zJ M .fdiv (N a) (N b)=some (N (a / b),true):=by
 unfold N;rw[y7 (by omega)];unfold iT;simp
theorem ZY{a b:Nat}(h:0<b):zJ M .mod (N a) (N b)=some (N (a % b),true):=by
 unfold N;rw[Z0 (by omega)];unfold iT;simp
theorem qBG{a b:Nat}(h:b<=1000/\a<1000000):zJ M .pow (N a) (N b)=some (N (a ^ b),true):=by
 unfold N;rw[Z4 (by omega)];unfold iT;simp
theorem i5{a b:Nat}(h:b<=1000/\a<1000000):zJ M .shl (N a) (N b)=some (N (a*2 ^ b),true):=by
 unfold N;rw[qB5 (by omega)];unfold iT;simp
@[simp] theorem qFN:qe M .lt (N a) (N b)=some (decide (a<b)):=by unfold N;rw[qCk];simp
@[simp] theorem qFO:qe M .le (N a) (N b)=some (decide (a<=b)):=by unfold N;rw[qDU];simp
@[simp] theorem qFU:qe M .gt (N a) (N b)=some (decide (b<a)):=by unfold N;rw[qDD];simp
@[simp] theorem qCe:qe M .ge (N a) (N b)=some (decide (b<=a)):=by unfold N;rw[qCm];simp
@[simp] theorem qCv:qe M .eq (N a) (N b)=some (decide (a=b)):=by unfold N;rw[qDF];congr 1;rw[wa,vF,vF];omega
@[simp] theorem qEw:qe M .ne (N a) (N b)=some (!decide (a=b)):=by
 show ((eqT M 4 (N a) (N b)).map (!·))=_;rw[show eqT M 4 (N a) (N b)=some (decide (a=b)) from qCv (M:=M) a b];rfl
@[simp] theorem O6:Qe M (.lst xs) (N a)=(xs[a]?).map λt=>(t,t.lf):=by
 show ((L2.ixN xs.length (a:Int)).bind λj=>(xs[j]?).map λt=>(t,t.lf))=_;unfold L2.ixN;rw[if_pos (by omega)];split
 ·simp
 ·rw[wW (by omega)];rfl
@[simp] theorem qD9:Qe M (.tup xs) (N a)=(xs[a]?).map λt=>(t,t.lf):=by
 show ((L2.ixN xs.length (a:Int)).bind λj=>(xs[j]?).map λt=>(t,t.lf))=_;unfold L2.ixN;rw[if_pos (by omega)];split
 ·simp
 ·rw[wW (by omega)];rfl
@[simp] theorem qEf:zr M .len [.lst xs]=some (N xs.length,true):=rfl
@[simp] theorem qER:zr M .len [.tup xs]=some (N xs.length,true):=rfl
@[simp] theorem qEL:zr M .len [.fz xs]=some (N xs.length,true):=rfl
@[simp] theorem qDn:zr M .max [N a,N b]=some (N (max a b),true):=by
 unfold N;rw[qB1];unfold iT;congr 4;split<;>omega
@[simp] theorem qDq:zr M .min [N a,N b]=some (N (min a b),true):=by
 unfold N;rw[qAs];unfold iT;congr 4;split<;>omega
@[simp] theorem qE4:zr M .int [N a]=some (N a,true):=rfl
@[simp] theorem qDe(t:Bool):zr M .int [.v (.bl t)]=some (N t.toNat,true):=by cases t<;>rfl
@[simp] theorem qD4:zr M .bits [N a]=some (N (PySem.Builtin.Int.intBits (a:Int)),true):=rfl
theorem J2:zJ M .band (N a) (N b)=some (N (a&&& b),true):=by
 unfold N;rw[qAf];unfold iT;rfl
end
theorem zw{n:Nat}(hn:n<=1000000):qCX (N n)=some ((List.range n).map N):=by
 show (if -1000000<=(n:Int)/\(n:Int)<=1000000 then some (zz 0 (n:Int).toNat) else none)=_;rw[if_pos (by omega),Int.toNat_natCast,v8]
theorem L7{M:Mem}{n j:Nat}{xs:List T}{x:T}(h:M[n]?=some xs)(hj:j<xs.length):n6 M (.cell n) (N j) x=some (M.set n (xs.set j x)):=by
 show ((M[n]?).bind λxs=>(L2.ixN xs.length (j:Int)).map λj=>M.set n (xs.set j x))=_;rw[h];show (L2.ixN xs.length (j:Int)).map _=_;unfold L2.ixN;rw[if_pos (by omega),if_pos (by omega)];simp
theorem qBB{M:Mem}{n:Nat}{xs:List T}{x:T}(h:M[n]?=some xs)(hl:xs.length<lim):qAl M n x=some (M.set n (xs++[x])):=by
 unfold qAl;rw[h];show (if xs.length<lim then _ else _)=_;rw[if_pos hl]
@[simp] theorem qB7(n a:Nat):thaw n (N a)=(N a,[]):=by unfold N;simp[thaw]
@[simp] theorem qD6{M:Mem}(L:List Nat):ZR M (NL L)=some (L.map N,[]):=rfl
@[simp] theorem qDw{M:Mem}(x f:Bool):pB (PR.ok ((T.v (V.bl x),f),M))=.ok (x,M):=Eq.trans rfl rfl
theorem qk{α:Type}:∀l:List α,l.filter (λ_=>true)=l
 | []=>rfl
 |x::l=>by rw[List.filter_cons_of_pos rfl,qk l]
theorem JQ{gl:List T}{P:Nat->List T->Mem->PR (TB×Mem)}{e:TS->Mem->PR (TB×Mem)}{M:Mem}{σ:TS}{o:Option T}{its:List Nat}(g:Nat->Nat)(hl:its.length<=lim)
  (he:∀x∈its,e (some (N x)::σ) M=.ok ((N (g x),true),M)):qR [] (.name 0) (pec gl P .nil) e (its.map N) [] true (o::σ) M=.ok ((NL (its.map g),true),M):=
 (ZA (λ_=>true) g hl (λx _=>by simp) (λx hx _=>he x hx)).trans (by rw[qk])
@[simp] theorem T3{M:Mem}{n j:Nat}{x:T}:n6 M (.cell n) (N j) x=(M[n]?).bind λxs=>if j<xs.length then some (M.set n (xs.set j x)) else none:=by
 show ((M[n]?).bind λxs=>(L2.ixN xs.length (j:Int)).map λj=>M.set n (xs.set j x))=_;congr 1
 funext xs
 unfold L2.ixN;rw[if_pos (by omega)];by_cases h:j<xs.length
 ·rw[if_pos (by omega),if_pos h];simp
 ·rw[if_neg (by omega),if_neg h];rfl
@[simp] theorem jx{M:Mem}{n a:Nat}:Qe M (.cell n) (N a)=(M[n]?).bind λxs=>(xs[a]?).map λt=>(t,t.lf):=by
 show ((M[n]?).bind λxs=>(L2.ixN xs.length (a:Int)).bind λj=>(xs[j]?).map λt=>(t,t.lf))=_;congr 1
 funext xs
 exact O6 (M:=M) a xs
@[simp] theorem qDd(a:Nat):qDt (N a)=some (iT (-(a:Int))):=rfl
@[simp] theorem qES(a:Int):qDt (.v (.int a))=some (iT (-a)):=rfl
@[simp] theorem qFP(a:Nat):zX [N a]=some [(a:Int)]:=rfl
@[simp] theorem qFf:zX []=some []:=rfl
@[simp] theorem qE6{M:Mem}(xs:List T):T.its M (.lst xs)=some xs:=rfl
@[simp] theorem qEp{M:Mem}(xs:List T):T.its M (.fz xs)=some xs:=rfl
@[simp] theorem qFK{M:Mem}(xs:List T):T.its M (.tup xs)=some xs:=rfl
@[simp] theorem qFZ{M:Mem}(L:List Nat):T.its M (NL L)=some (L.map N):=rfl
@[simp] theorem qEI(ys xs:List T)(lo hi:Option Int):qAV (.lst ys) xs lo hi=some (lT (W9 xs lo hi)):=rfl
@[simp] theorem qEc(ys xs:List T)(lo hi:Option Int):qAV (.fz ys) xs lo hi=some (lT (W9 xs lo hi)):=rfl
@[simp] theorem qDl(L:List Nat)(xs:List T)(lo hi:Option Int):qAV (NL L) xs lo hi=some (lT (W9 xs lo hi)):=rfl
@[simp] theorem qD3(n:Nat)(xs:List T)(lo hi:Option Int):qAV (.cell n) xs lo hi=some (lT (W9 xs lo hi)):=rfl
@[simp] theorem qFC{M:Mem}(xs:List T):T.lis M (.lst xs)=some xs:=rfl
@[simp] theorem qEt{M:Mem}(xs:List T):T.lis M (.fz xs)=some xs:=rfl
@[simp] theorem qE5{M:Mem}(L:List Nat):T.lis M (NL L)=some (L.map N):=rfl
@[simp] theorem qCQ(i j:Nat)(a b:T)(σ:TS):qt (.tup [i,j]) (.tup [a,b]) σ=some ((σ.set i (some a)).set j (some b)):=rfl
@[simp] theorem D8(σ:TS):jc [] σ=[]:=rfl
@[simp] theorem JY(r:List (Option Nat))(σ:TS):jc (none::r) σ=none::jc r σ:=rfl
@[simp] theorem u8(j:Nat)(r:List (Option Nat))(σ:TS):jc (some j::r) σ=(σ[j]?).join::jc r σ:=rfl
theorem N0(x:V)(f:Bool)(M1:Mem):∃b M2,ZJ ([]:Mem).length (.ok (.rt (.v x,f),M1))=.ok ((.v x,b),M2):=by
 show ∃b M2,zG 0 (.v x,f) M1=_;unfold zG;by_cases h:M1.length=0
 ·rw[if_pos h];exact⟨f,M1,rfl⟩
 ·rw[if_neg h,if_pos (by simp)];rw[show qL M1 0 6 (T.v x)=some (.v x) by unfold qL;rw[if_pos (by unfold T.und;rfl)]];exact⟨_,_,rfl⟩
mutual
theorem U6:∀t:T,T.beq t t=true
 | .v x=>by unfold T.beq;simp
 | .cell x=>by unfold T.beq;simp
 | .ob x=>by unfold T.beq;simp
 | .fz xs=>by unfold T.beq;exact zg xs
 | .lst xs=>by unfold T.beq;exact zg xs
 | .tup xs=>by unfold T.beq;exact zg xs
theorem zg:∀ts:List T,T.beqs ts ts=true
 | []=>rfl
 |t::ts=>by unfold T.beqs;rw[U6 t,zg ts];rfl
end
mutual
theorem V8{a b:Nat}(h:a<=b):∀t:T,t.und a=true->t.und b=true
 | .v x,_=>rfl
 | .cell k,e=>by unfold T.und at e ⊢;simp at e ⊢;omega
 | .ob x,_=>rfl
 | .fz xs,e=>by unfold T.und at e ⊢;exact zK h xs e
 | .lst xs,e=>by unfold T.und at e ⊢;exact zK h xs e
 | .tup xs,e=>by unfold T.und at e ⊢;exact zK h xs e
theorem zK{a b:Nat}(h:a<=b):∀ts:List T,T.unds a ts=true->T.unds b ts=true
 | [],_=>rfl
 |t::ts,e=>by unfold T.unds at e ⊢;rw[Bool.and_eq_true]at e;rw[V8 h t e.1,zK h ts e.2];rfl
end
def FlatM(M:Mem):Prop:=∀c∈M,T.unds 0 c=true
theorem FlatM.all{M:Mem}(h:FlatM M)(n:Nat):M.all (T.unds n)=true:=by
 rw[wF];exact λc hc=>zK (Nat.zero_le _) c (h c hc)
theorem FlatM.app{A B:Mem}(h:FlatM A)(k:FlatM B):FlatM (A++B):=λc hc=>by
 rcases wD.mp hc with z|z
 ·exact h c z
 ·exact k c z
theorem qC5(n a:Nat):(N a).und n=true:=by unfold N T.und;rfl
theorem j4(n:Nat):∀L:List Nat,T.unds n (L.map N)=true
 | []=>rfl
 |x::L=>by rw[List.map_cons];unfold T.unds;rw[qC5,j4 n L];rfl
theorem QK{d:jh}{c:TS->Mem->PR (Bool×Mem)}{e:TS->Mem->PR (TB×Mem)}{M:Mem}{σ:TS}(p:Nat->Bool)(f:Nat->T)(fr:Nat->Bool):∀(its:List Nat) (ys:List T) (b:Bool) (o:Option T),qd d M=true->ys.length+its.length<=lim ->
  (∀x∈its,c (some (N x)::σ) M=.ok (p x,M))->(∀x∈its,p x=true->e (some (N x)::σ) M=.ok ((f x,fr x),M)) ->
  qR d (.name 0) c e (its.map N) ys b (o::σ) M=.ok ((.lst (ys++(its.filter p).map f),b&&(its.filter p).all fr),M)
 | [],ys,b,o,hd,hl,hc,he=>by simp[qR]
 |x::r,ys,b,o,hd,hl,hc,he=>by
  rw[List.map_cons];unfold qR;rw[show qt (.name 0) (N x) (o::σ)=some (some (N x)::σ) from rfl];dsimp only;rw[hc x (List.mem_cons_self ..)];rw[PR.bind_ok];dsimp only;cases hp:p x with
  |true=>
   rw[if_pos rfl,he x (List.mem_cons_self ..) hp,PR.bind_ok];dsimp only;rw[if_pos ⟨by simp at hl;omega,hd⟩];rw[QK p f fr r (ys++[f x]) (b&&fr x) (some (N x)) hd (by simp at hl ⊢;omega) (λy hy=>hc y (List.mem_cons_of_mem _ hy)) (λy hy=>he y (List.mem_cons_of_mem _ hy))];rw[List.filter_cons_of_pos hp];simp[Bool.and_assoc]
  |false=>
   rw[if_neg (by decide),if_pos hd];rw[QK p f fr r ys b (some (N x)) hd (by simp at hl ⊢;omega) (λy hy=>hc y (List.mem_cons_of_mem _ hy)) (λy hy=>he y (List.mem_cons_of_mem _ hy))];rw[wj (by rw[hp];decide)]
theorem S3(n:Nat):∀L:List Nat,jY n (L.map N)=(L.map N,[])
 | []=>by simp[jY]
 |x::L=>by
  rw[List.map_cons,jY,qB7];dsimp only;rw[List.length_nil,Nat.add_zero,S3 n L];rfl
@[simp] theorem y6(n:Nat)(L:List Nat):thaw n (NL L)=(.cell n,[L.map N]):=by
 unfold NL;rw[thaw,S3];rfl
theorem g9{M:Mem}{n:Nat}{ts:List T}(h:M[n]?=some ts):qd [(n,ts)] M=true:=by
 unfold qd;simp[h,zg]
theorem C4{M:Mem}{n:Nat}{ts:List T}(h:M[n]?=some ts):ZR M (.cell n)=some (ts,[(n,ts)]):=by
 unfold ZR;dsimp only;rw[h];rfl
theorem qEe{M:Mem}{n:Nat}{ts:List T}(h:M[n]?=some ts):zd M (.cell n)=some "list":=by
 unfold zd;dsimp only;rw[h];rfl
structure IsL(M:Mem)(t:T)(L:List Nat):Prop where
 its:t.its M=some (L.map N)
 lis:t.lis M=some (L.map N)
 ty:zd M t=some "list"
 src:∃d,ZR M t=some (L.map N,d)/\D9 M t=some (L.map N,d)/\qd d M=true
 nv:t.isV=none
theorem IsL.nl(M:Mem)(L:List Nat):IsL M (NL L) L:=⟨rfl,rfl,rfl,⟨[],rfl,rfl,rfl⟩,rfl⟩
theorem IsL.cell{M:Mem}{n:Nat}{L:List Nat}(h:M[n]?=some (L.map N)):IsL M (.cell n) L:=⟨h,h,qEe h,⟨_,C4 h,C4 h,g9 h⟩,rfl⟩
section
variable{M:Mem}{t u:T}{L K:List Nat}
theorem IsL.len(h:IsL M t L):zr M .len [t]=some (N L.length,true):=by
 show (t.its M).map _=_;rw[h.its,Option.map_some,wL];rfl
theorem IsL.list(h:IsL M t L):zr M .list [t]=some (NL L,true):=by
 show (t.its M).map lT=_;rw[h.its,Option.map_some];show some (T.lst (L.map N),T.lfs (L.map N))=_;rw[Zm];rfl
theorem IsL.idx(h:IsL M t L){i:Nat}{x:Nat}(e:L[i]?=some x):Qe M t (N i)=some (N x,true):=by
 show ((t.its M).bind λxs=>(L2.ixN xs.length (i:Int)).bind λj=>(xs[j]?).map λt=>(t,t.lf))=_;rw[h.its,Option.bind_some];have:=O6 (M:=M) i (L.map N);rw[show Qe M (.lst (L.map N)) (N i)=((L2.ixN (L.map N).length (i:Int)).bind λj=>((L.map N)[j]?).map λt=>(t,t.lf)) from rfl]at this;rw[this,wK,e];simp
theorem IsL.eq(h:IsL M t L)(k:IsL M u K):eqT M 4 t u=some (decide (L=K)):=by
 have:=P4 (M:=M) (d:=3) L K;unfold eqT at this ⊢;rw[h.nv,k.nv,h.lis,k.lis];exact this
theorem IsL.cne(h:IsL M t L)(k:IsL M u K):qe M .ne t u=some (!decide (L=K)):=by
 show (eqT M 4 t u).map (!·)=_;rw[h.eq k];rfl
end
theorem N8{α:Type}(p:α->Bool):∀L:List α,zW (L.map λx=>T.v (.bl (p x)))=some (L.map p)
 | []=>rfl
 |x::L=>by
  show (zW (L.map λx=>T.v (.bl (p x)))).map _=_;rw[N8 p L];rfl
theorem N2{M:Mem}{α:Type}(p:α->Bool)(L:List α):zr M .all [.lst (L.map λx=>T.v (.bl (p x)))]=some (bT (L.all p)):=by
 show (zW _).map _=_;rw[N8,Option.map_some,List.all_map];rfl
theorem qEs(K:List Nat):lT (K.map N)=(NL K,true):=by unfold lT;rw[Zm];rfl
theorem qBm{M:Mem}(a b:Bool):qe M .ne (.v (.bl a)) (.v (.bl b))=some (!(a==b)):=rfl
theorem getD_some{L:List Nat}{i:Nat}(h:i<L.length):L[i]?=some (L.getD i 0):=by
 rw[wG,wA h];rfl
def IsS(M:Mem)(t:T)(ts:List T):Prop:=t=.lst ts\/∃m,t=.cell m/\M[m]?=some ts
section
variable{M C:Mem}{t:T}{ts:List T}
theorem IsS.app(h:IsS M t ts):IsS (M++C) t ts:=by
 rcases h with h|⟨m,h,e⟩
 ·exact .inl h
 ·exact .inr ⟨m,h,by rw[List.getElem?_append_left (List.getElem?_eq_some_iff.mp e).1];exact e⟩
theorem IsS.its(h:IsS M t ts):t.its M=some ts:=by rcases h with rfl|⟨m,rfl,e⟩;rfl;exact e
theorem IsS.lis(h:IsS M t ts):t.lis M=some ts:=by rcases h with rfl|⟨m,rfl,e⟩;rfl;exact e
theorem IsS.ty(h:IsS M t ts):zd M t=some "list":=by rcases h with rfl|⟨m,rfl,e⟩;rfl;exact qEe e
theorem IsS.nv(h:IsS M t ts):t.isV=none:=by rcases h with rfl|⟨m,rfl,e⟩<;>rfl
theorem IsS.lf(h:IsS M t ts):t.lf=false:=by rcases h with rfl|⟨m,rfl,e⟩<;>simp
theorem IsS.src(h:IsS M t ts):∃d,ZR M t=some (ts,d)/\D9 M t=some (ts,d)/\∀C,qd d (M++C)=true:=by
 rcases h with rfl|⟨m,rfl,e⟩
 ·exact⟨[],rfl,rfl,λ_=>rfl⟩
 ·exact⟨_,C4 e,C4 e,λC=>g9 (by rw[List.getElem?_append_left (List.getElem?_eq_some_iff.mp e).1];exact e)⟩
theorem IsS.len(h:IsS M t ts):zr M .len [t]=some (N ts.length,true):=by
 show (t.its M).map _=_;rw[h.its,Option.map_some];rfl
theorem IsS.idx(h:IsS M t ts)(i:Nat):Qe M t (N i)=(ts[i]?).map λt=>(t,t.lf):=by
 have a:Qe M t (N i)=Qe M (.lst ts) (N i):=by
  show (t.its M).bind _=_;rw[h.its];rfl
 rw[a,O6]
theorem IsS.list(h:IsS M t ts):zr M .list [t]=some (lT ts):=by
 show (t.its M).map lT=_;rw[h.its];rfl
theorem IsS.isL{L:List Nat}(h:IsS M t (L.map N)):IsL M t L:=by
 rcases h with rfl|⟨m,rfl,e⟩
 ·exact IsL.nl M L
 ·exact IsL.cell e
theorem IsS.eqT{u:T}{us:List T}{d:Nat}{bs:List Bool}(h:IsS M t ts)(k:IsS M u us)(hl:ts.length=us.length)(e:qi (eqT M d) ts us=some bs):PI.eqT M (d+1) t u=some (bs.all id):=by
 unfold PI.eqT;rw[h.nv,k.nv,h.lis,k.lis];dsimp only;rw[if_pos hl,e];rfl
end
def WfM(M:Mem):Prop:=M.all (T.unds M.length)=true
theorem WfM.app{M C:Mem}(h:WfM M)(hC:∀c∈C,T.unds (M++C).length c=true):WfM (M++C):=by
 unfold WfM at *;rw[wF]at h ⊢;intro c hc;rcases wD.mp hc with z|z
 ·exact zK (by simp) c (h c z)
 ·exact hC c z
theorem WfM.one{M:Mem}(h:WfM M){ts:List T}(l:T.lfs ts=true):WfM (M++[ts]):=h.app λc hc=>by rw[List.mem_singleton.mp hc];exact Qt _ _ l
theorem jv{M:Mem}{n0 d:Nat}:∀ts:List T,T.lfs ts=true->ts.mapM (qL M n0 d)=some ts
 | [],_=>rfl
 |t::ts,h=>by
  rw[jq,Bool.and_eq_true]at h;have e:qL M n0 d t=some t:=by cases d<;>(unfold qL;rw[if_pos (Zw n0 t h.1)])
  rw[List.mapM_cons,e,jv ts h.2];rfl
theorem A8{M:Mem}{n0 d:Nat}:∀ts:List T,T.lfs ts=true->ts.mapM (zq M n0 d)=some (ts.map λ_=>[])
 | [],_=>rfl
 |t::ts,h=>by
  rw[jq,Bool.and_eq_true]at h;have e:zq M n0 d t=some []:=by cases d<;>(unfold zq;rw[if_pos h.1])
  rw[List.mapM_cons,e,A8 ts h.2];rfl
theorem G1(L:List T):(L.map λ_=>([]:List Nat)).flatten=[]:=by
 induction L with
 |nil=>rfl
 |cons x L ih=>rw[List.map_cons,List.flatten_cons,ih];rfl
theorem zp{M A C:Mem}{c:Nat}{ts:List T}(hA:A.length=M.length)(hW:WfM A)(hc:(A++C)[c]?=some ts)(hn:A.length<=c)(hl:T.lfs ts=true)(f:Bool):ZJ M.length (.ok (.rt (.cell c,f),A++C))=.ok ((.lst ts,true),A):=by
 show zG M.length _ _=_;unfold zG;have hlt:=(List.getElem?_eq_some_iff.mp hc).1;rw[List.length_append]at hlt;rw[<-hA,if_neg (by rw[List.length_append];omega),List.take_left' rfl,if_pos (show A.all (T.unds A.length)=true from hW)];have r:qL (A++C) A.length 6 (.cell c)=some (.lst ts):=by
  unfold qL;rw[if_neg (by unfold T.und;simp;omega)];dsimp only;rw[hc,Option.bind_some,jv _ hl];rfl
 have i:frR (A++C) A.length (.cell c)=true:=by
  unfold frR;rw[show zq (A++C) A.length 6 (.cell c)=some [c] by
   unfold zq;rw[if_neg (by rw[jS];decide)];dsimp only;rw[if_pos hn,hc,Option.bind_some,A8 _ hl,Option.map_some,G1];rfl]
  simp
 dsimp only;rw[r,PR.ofO_some,PR.bind_ok,i,Bool.or_true]
theorem S6{M A C:Mem}{t:T}{f:Bool}(hA:A.length=M.length)(hW:WfM A)(ht:t.lf=true):∃f',ZJ M.length (.ok (.rt (t,f),A++C))=.ok ((t,f'),A):=by
 show ∃f',zG M.length _ _=_;unfold zG;rw[<-hA];by_cases hb:(A++C).length=A.length
 ·have:C=[]:=List.length_eq_zero_iff.mp (by simp at hb;simp[hb]);subst this;rw[if_pos hb,List.append_nil];exact⟨_,rfl⟩
 ·rw[if_neg hb,List.take_left' rfl,if_pos (show A.all (T.unds A.length)=true from hW)];dsimp only;rw[show qL (A++C) A.length 6 t=some t by unfold qL;rw[if_pos (Zw _ t ht)]];exact⟨_,rfl⟩
theorem u3{M A C:Mem}{b:Bool}(hA:A.length=M.length)(hW:WfM A):ZJ M.length (.ok (.rt (bT b),A++C))=.ok (bT b,A):=by
 show zG M.length _ _=_;unfold zG;rw[<-hA];by_cases hb:(A++C).length=A.length
 ·have:C=[]:=List.length_eq_zero_iff.mp (by simp at hb;simp[hb]);subst this;rw[if_pos hb,List.append_nil]
 ·rw[if_neg hb,List.take_left' rfl,if_pos (show A.all (T.unds A.length)=true from hW)];rw[show qL (A++C) A.length 6 (bT b).1=some (bT b).1 by unfold qL;rw[if_pos (Zw _ _ rfl)]];rfl
theorem d9{d:jh}{gl:List T}{P:Nat->List T->Mem->PR (TB×Mem)}{e:TS->Mem->PR (TB×Mem)}{σ:TS}{M:Mem}(f:T->T)(fr:T->Bool)(hd:qd d M=true):∀(its ys:List T) (b:Bool) (o:Option T),ys.length+its.length<=lim ->
  (∀x∈its,e (some x::σ) M=.ok ((f x,fr x),M)) ->
  qR d (.name 0) (pec gl P .nil) e its ys b (o::σ) M=.ok ((.lst (ys++its.map f),b&&its.all fr),M)
 | [],ys,b,o,_,_=>by simp[qR]
 |x::r,ys,b,o,hl,he=>by
  rw[qR,show qt (.name 0) x (o::σ)=some (some x::σ) from rfl];dsimp only;rw[qg,PR.bind_ok];dsimp only;rw[if_pos rfl,he x (by simp),PR.bind_ok];dsimp only;rw[if_pos ⟨by simp at hl;omega,hd⟩,d9 f fr hd r (ys++[f x]) (b&&fr x) (some x) (by simp at hl ⊢;omega) λy hy=>he y (by simp[hy])];simp[Bool.and_assoc]
section
variable{gl:List T}{P:Nat->List T->Mem->PR (TB×Mem)}{M:Mem}{t:T}{l:TS}
@[simp high] theorem qE0:pe gl P (.var 0) (some t::l) M=.ok ((t,t.lf),M):=Eq.trans rfl rfl
@[simp high] theorem qFb{x0:Option T}:pe gl P (.var 1) (x0::some t::l) M=.ok ((t,t.lf),M):=Eq.trans rfl rfl
@[simp high] theorem qFj{x0 x1:Option T}:pe gl P (.var 2) (x0::x1::some t::l) M=.ok ((t,t.lf),M):=Eq.trans rfl rfl
@[simp high] theorem qEi{x0 x1 x2:Option T}:pe gl P (.var 3) (x0::x1::x2::some t::l) M=.ok ((t,t.lf),M):=Eq.trans rfl rfl
@[simp high] theorem qEz{x0 x1 x2 x3:Option T}:pe gl P (.var 4) (x0::x1::x2::x3::some t::l) M=.ok ((t,t.lf),M):=Eq.trans rfl rfl
@[simp high] theorem qEq{x0 x1 x2 x3 x4:Option T}:pe gl P (.var 5) (x0::x1::x2::x3::x4::some t::l) M=.ok ((t,t.lf),M):=Eq.trans rfl rfl
@[simp high] theorem qFa{x0 x1 x2 x3 x4 x5:Option T}:pe gl P (.var 6) (x0::x1::x2::x3::x4::x5::some t::l) M=.ok ((t,t.lf),M):=Eq.trans rfl rfl
@[simp high] theorem qFB{x0 x1 x2 x3 x4 x5 x6:Option T}:pe gl P (.var 7) (x0::x1::x2::x3::x4::x5::x6::some t::l) M=.ok ((t,t.lf),M):=Eq.trans rfl rfl
@[simp high] theorem qE9{x0 x1 x2 x3 x4 x5 x6 x7:Option T}:pe gl P (.var 8) (x0::x1::x2::x3::x4::x5::x6::x7::some t::l) M=.ok ((t,t.lf),M):=Eq.trans rfl rfl
@[simp high] theorem qEr{x0 x1 x2 x3 x4 x5 x6 x7 x8:Option T}:pe gl P (.var 9) (x0::x1::x2::x3::x4::x5::x6::x7::x8::some t::l) M=.ok ((t,t.lf),M):=Eq.trans rfl rfl
@[simp high] theorem qDp{x0 x1 x2 x3 x4 x5 x6 x7 x8 x9:Option T}:pe gl P (.var 10) (x0::x1::x2::x3::x4::x5::x6::x7::x8::x9::some t::l) M=.ok ((t,t.lf),M):=Eq.trans rfl rfl
@[simp high] theorem qEM{x0 x1 x2 x3 x4 x5 x6 x7 x8 x9 x10:Option T}:pe gl P (.var 11) (x0::x1::x2::x3::x4::x5::x6::x7::x8::x9::x10::some t::l) M=.ok ((t,t.lf),M):=Eq.trans rfl rfl
@[simp high] theorem qDz{x0 x1 x2 x3 x4 x5 x6 x7 x8 x9 x10 x11:Option T}:pe gl P (.var 12) (x0::x1::x2::x3::x4::x5::x6::x7::x8::x9::x10::x11::some t::l) M=.ok ((t,t.lf),M):=Eq.trans rfl rfl
@[simp high] theorem qDf{x0 x1 x2 x3 x4 x5 x6 x7 x8 x9 x10 x11 x12:Option T}:pe gl P (.var 13) (x0::x1::x2::x3::x4::x5::x6::x7::x8::x9::x10::x11::x12::some t::l) M=.ok ((t,t.lf),M):=Eq.trans rfl rfl
@[simp high] theorem qEO{y z:Option T}:(y::l:TS).set 0 z=z::l:=Eq.trans rfl rfl
@[simp high] theorem qEN{x0 y z:Option T}:(x0::y::l:TS).set 1 z=x0::z::l:=Eq.trans rfl rfl
@[simp high] theorem qET{x0 x1 y z:Option T}:(x0::x1::y::l:TS).set 2 z=x0::x1::z::l:=Eq.trans rfl rfl
@[simp high] theorem qDa{x0 x1 x2 y z:Option T}:(x0::x1::x2::y::l:TS).set 3 z=x0::x1::x2::z::l:=Eq.trans rfl rfl
@[simp high] theorem qEW{x0 x1 x2 x3 y z:Option T}:(x0::x1::x2::x3::y::l:TS).set 4 z=x0::x1::x2::x3::z::l:=Eq.trans rfl rfl
@[simp high] theorem qEb{x0 x1 x2 x3 x4 y z:Option T}:(x0::x1::x2::x3::x4::y::l:TS).set 5 z=x0::x1::x2::x3::x4::z::l:=Eq.trans rfl rfl
@[simp high] theorem qDj{x0 x1 x2 x3 x4 x5 y z:Option T}:(x0::x1::x2::x3::x4::x5::y::l:TS).set 6 z=x0::x1::x2::x3::x4::x5::z::l:=Eq.trans rfl rfl
@[simp high] theorem qD8{x0 x1 x2 x3 x4 x5 x6 y z:Option T}:(x0::x1::x2::x3::x4::x5::x6::y::l:TS).set 7 z=x0::x1::x2::x3::x4::x5::x6::z::l:=Eq.trans rfl rfl
@[simp high] theorem qED{x0 x1 x2 x3 x4 x5 x6 x7 y z:Option T}:(x0::x1::x2::x3::x4::x5::x6::x7::y::l:TS).set 8 z=x0::x1::x2::x3::x4::x5::x6::x7::z::l:=Eq.trans rfl rfl
@[simp high] theorem qEJ{x0 x1 x2 x3 x4 x5 x6 x7 x8 y z:Option T}:(x0::x1::x2::x3::x4::x5::x6::x7::x8::y::l:TS).set 9 z=x0::x1::x2::x3::x4::x5::x6::x7::x8::z::l:=Eq.trans rfl rfl
@[simp high] theorem qDP{x0 x1 x2 x3 x4 x5 x6 x7 x8 x9 y z:Option T}:(x0::x1::x2::x3::x4::x5::x6::x7::x8::x9::y::l:TS).set 10 z=x0::x1::x2::x3::x4::x5::x6::x7::x8::x9::z::l:=Eq.trans rfl rfl
@[simp high] theorem qDQ{x0 x1 x2 x3 x4 x5 x6 x7 x8 x9 x10 y z:Option T}:(x0::x1::x2::x3::x4::x5::x6::x7::x8::x9::x10::y::l:TS).set 11 z=x0::x1::x2::x3::x4::x5::x6::x7::x8::x9::x10::z::l:=Eq.trans rfl rfl
@[simp high] theorem qDY{x0 x1 x2 x3 x4 x5 x6 x7 x8 x9 x10 x11 y z:Option T}:(x0::x1::x2::x3::x4::x5::x6::x7::x8::x9::x10::x11::y::l:TS).set 12 z=x0::x1::x2::x3::x4::x5::x6::x7::x8::x9::x10::x11::z::l:=Eq.trans rfl rfl
@[simp high] theorem qDJ{x0 x1 x2 x3 x4 x5 x6 x7 x8 x9 x10 x11 x12 y z:Option T}:(x0::x1::x2::x3::x4::x5::x6::x7::x8::x9::x10::x11::x12::y::l:TS).set 13 z=x0::x1::x2::x3::x4::x5::x6::x7::x8::x9::x10::x11::x12::z::l:=Eq.trans rfl rfl
variable{σ:TS}{C:List Nat}{e:E}{i:Nat}
theorem qDE(h:(C.contains i||C.contains (i+1000))=false):px gl P C (.asg (.name i) e) σ M=(pe gl P e σ M).bind λp=>.ok (.nx (σ.set i (some p.1.1)),p.2):=by
 rw[Bool.or_eq_false_iff]at h;rw[qAd,h.1,h.2];rfl
@[simp high] theorem qDb:px gl P [] (.asg (.name i) e) σ M=(pe gl P e σ M).bind λp=>.ok (.nx (σ.set i (some p.1.1)),p.2):=qDE rfl
variable{s:S}{r t0 u0:Ss}{σ':TS}{M':Mem}{c:E}{b:Bool}
end
end PI
namespace My
open PySem PySem.Spec PyProof.Rows L2 PI
noncomputable def top(i:Nat):Stmt:=PySem.Challenge.pw_healhalves_k71_sent_and_come.main.body.getD i (.Pass ⟨0,0,0,0⟩)
noncomputable def Tb:Tbl:=⟨[⟨"is_whole",top 9,["thing"],["thing"]⟩,
 ⟨"is_number_below",top 10,["thing","end"],["thing","end"]⟩,
 ⟨"is_list_below",top 11,["thing","end"],["thing","end"]⟩,
 ⟨"is_rising",top 12,["thing","end"],["thing","end","least","number"]⟩,
 ⟨"length_of",top 13,["size"],["size"]⟩,
 ⟨"is_size",top 14,["thing"],["thing"]⟩,
 ⟨"is_sign",top 16,["thing"],["thing"]⟩,
 ⟨"is_row",top 17,["thing","length"],["thing","length"]⟩,
 ⟨"is_reached",top 19,["place","spot"],["place","spot"]⟩,
 ⟨"is_came",top 21,["thing","length"],["thing","length"]⟩,
 ⟨"is_plan",top 24,["thing"],["thing","length"]⟩,
 ⟨"is_known_rightly",top 25,["sendings","known","spot"],["sendings","known","spot","reaching"]⟩,
 ⟨"check_plan",top 26,["plan"],["plan"]⟩,
 ⟨"sent_spots",top 27,["plan"],["plan","spots","number"]⟩,
 ⟨"sent_by",top 28,["plan","word"],["plan","word"]⟩,
 ⟨"came_by",top 29,["plan","things"],["plan","things","spots","spot","came","thing"]⟩,
 ⟨"_law_bag",top 31,["_law_script","_law_k"],["_law_script","_law_k","_law_cell","_law_great"]⟩,
 ⟨"_law_out",top 32,["_law_bag_here","_law_many"],["_law_bag_here","_law_many","_law_found"]⟩,
 ⟨"_law_whole",top 33,["_law_thing"],["_law_thing"]⟩,
 ⟨"_law_plan",top 34,["_law_bag_here"],["_law_bag_here","_law_size","_law_many","_law_way","_law_start","_law_known","_law_most"]⟩,
 ⟨"_law_spots",top 35,["_law_plan_here"],["_law_plan_here","_law_found","_law_turn"]⟩,
 ⟨"_law_come",top 36,["_law_plan_here","_law_things"],["_law_plan_here","_law_things","_law_found","_law_spots_here","_law_k"]⟩,
 ⟨"_law_came",top 37,["_law_plan_here","_law_things"],["_law_plan_here","_law_things","_law_found","_law_kinds","e"]⟩,
 ⟨"_law_right",top 38,["_law_plan_here","_law_word","_law_things"],["_law_plan_here","_law_word","_law_things","_law_handed","_law_due","_law_turn","_law_sent","_law_came_here","_law_odd"]⟩,
 ⟨"law",top 39,["_law_script"],["_law_script","_law_k","_law_bag_here","_law_plan_here","_law_word","_law_often","_law_things","_law_at"]⟩],
 [("LENGTHS",E.glob 0),("GREATEST_SIZE",E.cst (.int 5)),("MOST_SENDINGS",E.cst (.int 6))],
 ["len","all","max","min","list","int","tuple","range","zip","isinstance","bool","enumerate","ValueError"],["HealError","NoCore","NoCame","NoPlan","Clash"],[]⟩
noncomputable def gs:List O:=[O.tup [V.int 1,V.int 2,V.int 4,V.int 8,V.int 16,V.int 32]]
end My
namespace My
open PySem PySem.Spec PI
open L2 (V)
noncomputable def b0:Ss:=(.cons (.ret (.and (.isi (.var 0) ["int"]) (.not (.isi (.var 0) ["bool"])))) .nil)
theorem t0:Tb.fns[0]?=some ⟨1,1,b0⟩:=by kernel_rfl
noncomputable def b1:Ss:=(.cons (.ret (.and (.call 0 (.cons (.var 0) .nil)) (.cmp2 .le .lt (nE 0) (.var 0) (.var 1)))) .nil)
theorem t1:Tb.fns[1]?=some ⟨2,2,b1⟩:=by kernel_rfl
noncomputable def b2:Ss:=(.cons (.ret (.and (.isi (.var 0) ["list"]) (.blt .all (.cons (.comp (.list (.var 0)) [none,some 1] (.name 0) .nil (.call 1 (.cons (.var 0) (.cons (.var 1) .nil)))) .nil)))) .nil)
theorem t2:Tb.fns[2]?=some ⟨2,2,b2⟩:=by kernel_rfl
noncomputable def qCZ:Ss:=(.cons (.ifs (.or (.not (.call 1 (.cons (.var 3) (.cons (.var 1) .nil)))) (.cmp .lt (.var 3) (.var 2))) (.cons (.ret (.cst (V.bl false))) .nil) .nil) (.cons (.asg (.name 2) (.bin .add (.var 3) (nE 1))) .nil))
noncomputable def b3:Ss:=(.cons (.ifs (.not (.isi (.var 0) ["list"])) (.cons (.ret (.cst (V.bl false))) .nil) .nil) (.cons (.asg (.name 2) (nE 0)) (.cons (.for_ (.name 3) (.list (.var 0)) qCZ) (.cons (.ret (.cst (V.bl true))) .nil))))
theorem t3:Tb.fns[3]?=some ⟨2,4,b3⟩:=by kernel_rfl
noncomputable def b4:Ss:=(.cons (.ret (.idx (.glob 0) (.var 0))) .nil)
theorem t4:Tb.fns[4]?=some ⟨1,1,b4⟩:=by kernel_rfl
noncomputable def b5:Ss:=(.cons (.ret (.and (.call 0 (.cons (.var 0) .nil)) (.cmp2 .le .le (nE 1) (.var 0) (nE 5)))) .nil)
theorem t5:Tb.fns[5]?=some ⟨1,1,b5⟩:=by kernel_rfl
noncomputable def b6:Ss:=(.cons (.ret (.call 1 (.cons (.var 0) (.cons (nE 2) .nil)))) .nil)
theorem t6:Tb.fns[6]?=some ⟨1,1,b6⟩:=by kernel_rfl
noncomputable def b7:Ss:=(.cons (.ret (.and (.isi (.var 0) ["list"]) (.and (.cmp .eq (.blt .len (.cons (.var 0) .nil)) (.var 1)) (.blt .all (.cons (.comp (.list (.var 0)) [none] (.name 0) .nil (.call 6 (.cons (.var 0) .nil))) .nil))))) .nil)
theorem t7:Tb.fns[7]?=some ⟨2,2,b7⟩:=by kernel_rfl
noncomputable def b8:Ss:=(.cons (.ret (.cmp .eq (.bin .band (.var 0) (.var 1)) (.var 1))) .nil)
theorem t8:Tb.fns[8]?=some ⟨2,2,b8⟩:=by kernel_rfl
noncomputable def b9:Ss:=(.cons (.ifs (.or (.not (.isi (.var 0) ["list"])) (.cmp .ne (.blt .len (.cons (.var 0) .nil)) (.var 1))) (.cons (.ret (.cst (V.bl false))) .nil) .nil) (.cons (.ret (.blt .all (.cons (.comp (.list (.var 0)) [none] (.name 0) .nil (.or (.cmp .is (.var 0) (.cst V.non)) (.call 6 (.cons (.var 0) .nil)))) .nil))) .nil))
theorem t9:Tb.fns[9]?=some ⟨2,2,b9⟩:=by kernel_rfl
noncomputable def b10:Ss:=(.cons (.ifs (.or (.not (.isi (.var 0) ["tuple"])) (.or (.cmp .ne (.blt .len (.cons (.var 0) .nil)) (nE 3)) (.not (.call 5 (.cons (.idx (.var 0) (nE 0)) .nil))))) (.cons (.ret (.cst (V.bl false))) .nil) .nil) (.cons (.asg (.name 1) (.call 4 (.cons (.idx (.var 0) (nE 0)) .nil))) (.cons (.ifs (.or (.not (.call 2 (.cons (.idx (.var 0) (nE 1)) (.cons (.bin .add (nE 6) (nE 1)) .nil)))) (.cmp .ne (.blt .len (.cons (.idx (.var 0) (nE 1)) .nil)) (.var 1))) (.cons (.ret (.cst (V.bl false))) .nil) .nil) (.cons (.ret (.and (.call 3 (.cons (.idx (.var 0) (nE 2)) (.cons (.var 1) .nil))) (.blt .all (.cons (.comp (.list (.idx (.var 0) (nE 2))) [none,some 0] (.name 0) .nil (.call 11 (.cons (.idx (.var 1) (nE 1)) (.cons (.idx (.var 1) (nE 2)) (.cons (.var 0) .nil))))) .nil)))) .nil))))
theorem t10:Tb.fns[10]?=some ⟨1,2,b10⟩:=by kernel_rfl
noncomputable def b11:Ss:=(.cons (.asg (.name 3) (.comp (.rng1 (.blt .len (.cons (.var 0) .nil))) [none,some 2] (.name 0) (.cons (.call 8 (.cons (.var 0) (.cons (.var 1) .nil))) .nil) (.var 0))) (.cons (.ret (.and (.cmp .eq (.idx (.var 0) (.var 2)) (nE 0)) (.blt .all (.cons (.comp (.list (.var 3)) [none,some 1] (.name 0) .nil (.cmp .inn (.var 0) (.var 1))) .nil)))) .nil))
theorem t11:Tb.fns[11]?=some ⟨3,4,b11⟩:=by kernel_rfl
noncomputable def b12:Ss:=(.cons (.ifs (.not (.call 10 (.cons (.var 0) .nil))) (.cons (.raise 3) .nil) .nil) .nil)
theorem t12:Tb.fns[12]?=some ⟨1,1,b12⟩:=by kernel_rfl
noncomputable def Y7:Ss:=(.cons (.expr (.meth .ext (.var 1) (.cons (.comp (.enum (.idx (.var 0) (nE 1))) [none,none,some 2] (.tup [0,1]) (.cons (.cmp .gt (.var 1) (.var 2)) .nil) (.var 0)) .nil))) .nil)
noncomputable def b13:Ss:=(.cons (.asg (.name 1) (.lst .nil)) (.cons (.for_ (.name 2) (.rng1 (nE 6)) Y7) (.cons (.ret (.var 1)) .nil)))
theorem t13:Tb.fns[13]?=some ⟨1,3,b13⟩:=by kernel_rfl
noncomputable def b14:Ss:=(.cons (.xexpr 12 (.cons (.var 0) .nil)) (.cons (.ifs (.not (.call 7 (.cons (.var 1) (.cons (.call 4 (.cons (.idx (.var 0) (nE 0)) .nil)) .nil)))) (.cons (.raise 1) .nil) .nil) (.cons (.ret (.comp (.list (.call 13 (.cons (.var 0) .nil))) [none,some 1] (.name 0) .nil (.idx (.var 1) (.var 0)))) .nil)))
theorem t14:Tb.fns[14]?=some ⟨2,2,b14⟩:=by kernel_rfl
noncomputable def QX:Ss:=(.cons (.ifs (.cmp .is (.idx (.var 4) (.var 3)) (.cst V.non)) (.cons (.put (.var 4) (.var 3) (.var 5)) .nil) (.cons (.ifs (.and (.cmp .isnot (.var 5) (.cst V.non)) (.cmp .ne (.var 5) (.idx (.var 4) (.var 3)))) (.cons (.raise 4) .nil) .nil) .nil)) .nil)
noncomputable def b15:Ss:=(.cons (.xexpr 12 (.cons (.var 0) .nil)) (.cons (.asg (.name 2) (.call 13 (.cons (.var 0) .nil))) (.cons (.ifs (.not (.call 9 (.cons (.var 1) (.cons (.blt .len (.cons (.var 2) .nil)) .nil)))) (.cons (.raise 2) .nil) .nil) (.cons (.asg (.name 4) (.comp (.rng1 (.call 4 (.cons (.idx (.var 0) (nE 0)) .nil))) [none,some 0] (.name 0) .nil (.ite (.cmp .inn (.var 0) (.idx (.var 1) (nE 2))) (nE 0) (.cst V.non)))) (.cons (.for_ (.tup [3,5]) (.zip (.var 2) (.var 1)) QX) (.cons (.ret (.var 4)) .nil))))))
theorem t15:Tb.fns[15]?=some ⟨2,6,b15⟩:=by kernel_rfl
noncomputable def b16:Ss:=(.cons (.asg (.name 2) (nE 0)) (.cons (.ifs (.cmp .lt (.var 1) (.blt .len (.cons (.var 0) .nil))) (.cons (.asg (.name 2) (.idx (.var 0) (.var 1))) .nil) .nil) (.cons (.asg (.name 3) (nE 0)) (.cons (.ifs (.cmp .ge (.var 2) (.bin .pow (nE 10) (nE 18))) (.cons (.asg (.name 3) (.var 2)) .nil) .nil) (.cons (.ret (.lst (.cons (.var 3) (.cons (.bin .mod (.bin .pow (.bin .add (.bin .add (.bin .mod (.var 2) (nE 998244353)) (.bin .mul (nE 7368787) (.var 1))) (nE 17)) (nE 3)) (nE 2147483629)) .nil)))) .nil)))))
theorem t16:Tb.fns[16]?=some ⟨2,4,b16⟩:=by kernel_rfl
noncomputable def b17:Ss:=(.cons (.ifs (.cmp .gt (.idx (.var 0) (nE 0)) (nE 0)) (.cons (.asg (.name 2) (.bin .mod (.idx (.var 0) (nE 0)) (.var 1))) (.cons (.put (.var 0) (nE 0) (.bin .fdiv (.idx (.var 0) (nE 0)) (.var 1))) (.cons (.ret (.var 2)) .nil))) .nil) (.cons (.put (.var 0) (nE 1) (.bin .mod (.bin .add (.bin .mul (.idx (.var 0) (nE 1)) (nE 40692)) (nE 12345)) (nE 2147483399))) (.cons (.ret (.bin .mod (.bin .fdiv (.bin .mod (.bin .mul (.idx (.var 0) (nE 1)) (.bin .add (.bin .fdiv (.idx (.var 0) (nE 1)) (nE 1024)) (nE 7))) (nE 2147483647)) (nE 32)) (.var 1))) .nil)))
theorem t17:Tb.fns[17]?=some ⟨2,3,b17⟩:=by kernel_rfl
noncomputable def b18:Ss:=(.cons (.ret (.and (.isi (.var 0) ["int"]) (.not (.isi (.var 0) ["bool"])))) .nil)
theorem t18:Tb.fns[18]?=some ⟨1,1,b18⟩:=by kernel_rfl
noncomputable def b19:Ss:=(.cons (.asg (.name 1) (.bin .add (nE 1) (.call 17 (.cons (.var 0) (.cons (nE 5) .nil))))) (.cons (.asg (.name 2) (.bin .shl (nE 1) (.var 1))) (.cons (.asg (.name 3) (.call 17 (.cons (.var 0) (.cons (nE 3) .nil)))) (.cons (.asg (.name 4) (.call 17 (.cons (.var 0) (.cons (.var 2) .nil)))) (.cons (.asg (.name 5) (.comp (.rng1 (.var 2)) [none,some 4,some 3] (.name 0) (.cons (.or (.and (.cmp .eq (.var 2) (nE 1)) (.cmp .ge (.var 0) (.var 1))) (.and (.cmp .eq (.var 2) (nE 2)) (.cmp .eq (.bin .band (.var 0) (.var 1)) (.var 1)))) .nil) (.var 0))) (.cons (.asg (.name 6) (.idx (.lst (.cons (nE 2) (.cons (nE 7) .nil))) (.call 17 (.cons (.var 0) (.cons (nE 2) .nil))))) (.cons (.ret (.tup (.cons (.var 1) (.cons (.comp (.rng1 (.var 2)) [none,some 0,some 5,some 6] (.name 0) .nil (.bin .mul (.call 17 (.cons (.var 1) (.cons (.var 3) .nil))) (.blt .int (.cons (.cmp .notin (.var 0) (.var 2)) .nil)))) (.cons (.var 5) .nil))))) .nil)))))))
theorem t19:Tb.fns[19]?=some ⟨1,7,b19⟩:=by kernel_rfl
noncomputable def K9:Ss:=(.cons (.asg (.name 1) (.bin .add (.var 1) (.comp (.rng1 (.blt .len (.cons (.idx (.var 0) (nE 1)) .nil))) [none,some 0,some 2] (.name 0) (.cons (.cmp .gt (.idx (.idx (.var 1) (nE 1)) (.var 0)) (.var 2)) .nil) (.var 0)))) .nil)
noncomputable def b20:Ss:=(.cons (.asg (.name 1) (.lst .nil)) (.cons (.for_ (.name 2) (.rng1 (nE 6)) K9) (.cons (.ret (.var 1)) .nil)))
theorem t20:Tb.fns[20]?=some ⟨1,3,b20⟩:=by kernel_rfl
noncomputable def QN:Ss:=(.cons (.ifs (.cmp .isnot (.idx (.var 1) (.var 4)) (.cst V.non)) (.cons (.ifs (.and (.cmp .isnot (.idx (.var 2) (.idx (.var 3) (.var 4))) (.cst V.non)) (.cmp .ne (.idx (.var 2) (.idx (.var 3) (.var 4))) (.idx (.var 1) (.var 4)))) (.cons (.ret (.cst V.non)) .nil) .nil) (.cons (.put (.var 2) (.idx (.var 3) (.var 4)) (.idx (.var 1) (.var 4))) .nil)) .nil) .nil)
noncomputable def b21:Ss:=(.cons (.asg (.name 2) (.comp (.rng1 (.blt .len (.cons (.idx (.var 0) (nE 1)) .nil))) [none,some 0] (.name 0) .nil (.idx (.lst (.cons (.cst V.non) (.cons (nE 0) .nil))) (.blt .int (.cons (.cmp .inn (.var 0) (.idx (.var 1) (nE 2))) .nil))))) (.cons (.asg (.name 3) (.call 20 (.cons (.var 0) .nil))) (.cons (.for_ (.name 4) (.rng1 (.blt .len (.cons (.var 3) .nil))) QN) (.cons (.ret (.var 2)) .nil))))
theorem t21:Tb.fns[21]?=some ⟨2,5,b21⟩:=by kernel_rfl
noncomputable def b22:Ss:=(.cons (.asg (.name 2) (.cst V.non)) (.cons (.asg (.name 3) (.lst .nil)) (.cons (.tryK (.xasg 2 15 (.cons (.var 0) (.cons (.var 1) .nil))) 4 3 5 [4,999,2]) (.cons (.ifs (.cmp .eq (.var 3) (.lst (.cons (.cst (V.bl true)) (.cons (.cst (V.bl true)) (.cons (.cst (V.bl false)) .nil))))) (.cons (.ret (.cst (V.str "clash"))) .nil) .nil) (.cons (.ifs (.or (.cmp .ne (.var 3) (.lst .nil)) (.not (.isi (.var 2) ["list"]))) (.cons (.ret (.cst (V.str "another"))) .nil) .nil) (.cons (.ret (.var 2)) .nil))))))
theorem t22:Tb.fns[22]?=some ⟨2,5,b22⟩:=by kernel_rfl
noncomputable def Q6:Ss:=(.cons (.asg (.name 6) (.call 14 (.cons (.idx (.var 3) (nE 0)) (.cons (.idx (.var 3) (nE 1)) .nil)))) (.cons (.ifs (.or (.not (.isi (.var 6) ["list"])) (.cmp .ne (.var 6) (.comp (.list (.call 20 (.cons (.var 0) .nil))) [none,some 1] (.name 0) .nil (.idx (.var 1) (.var 0))))) (.cons (.ret (.cst (V.bl false))) .nil) .nil) (.cons (.asg (.name 7) (.call 22 (.cons (.idx (.var 3) (nE 0)) (.cons (.idx (.var 3) (nE 2)) .nil)))) (.cons (.ifs (.or (.cmp .ne (.var 3) (.lst (.cons (.var 0) (.cons (.var 1) (.cons (.var 2) .nil))))) (.cmp .ne (.cmp .is (.var 4) (.cst V.non)) (.cmp .eq (.var 7) (.cst (V.str "clash"))))) (.cons (.ret (.cst (V.bl false))) .nil) .nil) (.cons (.ifs (.cmp .isnot (.var 4) (.cst V.non)) (.cons (.asg (.name 8) (.comp (.list (.var 7)) [none] (.name 0) (.cons (.and (.cmp .isnot (.var 0) (.cst V.non)) (.not (.call 18 (.cons (.var 0) .nil)))) .nil) (.var 0))) (.cons (.ifs (.or (.cmp .ne (.var 7) (.var 4)) (.cmp .ne (.var 8) (.lst .nil))) (.cons (.ret (.cst (V.bl false))) .nil) .nil) (.cons (.expr (.meth .clr (.var 7) .nil)) .nil))) .nil) (.cons (.expr (.app (.var 6) (nE 7))) .nil))))))
noncomputable def b23:Ss:=(.cons (.asg (.name 3) (.lst (.cons (.tup (.cons (.idx (.var 0) (nE 0)) (.cons (.blt .list (.cons (.idx (.var 0) (nE 1)) .nil)) (.cons (.blt .list (.cons (.idx (.var 0) (nE 2)) .nil)) .nil)))) (.cons (.blt .list (.cons (.var 1) .nil)) (.cons (.blt .list (.cons (.var 2) .nil)) .nil))))) (.cons (.asg (.name 4) (.call 21 (.cons (.var 0) (.cons (.var 2) .nil)))) (.cons (.for_ (.name 5) (.rng1 (nE 2)) Q6) (.cons (.ret (.cst (V.bl true))) .nil))))
theorem t23:Tb.fns[23]?=some ⟨3,9,b23⟩:=by kernel_rfl
noncomputable def T7:Ss:=(.cons (.asg (.name 2) (.call 16 (.cons (.var 0) (.cons (.var 1) .nil)))) (.cons (.asg (.name 3) (.call 19 (.cons (.var 2) .nil))) (.cons (.ifs (.cmp .eq (.call 17 (.cons (.var 2) (.cons (nE 8) .nil))) (nE 0)) (.cons (.asg (.name 3) (.tup (.cons (.idx (.var 3) (nE 0)) (.cons (.comp (.list (.idx (.var 3) (nE 1))) [none] (.name 0) .nil (nE 0)) (.cons (.idx (.var 3) (nE 2)) .nil))))) .nil) .nil) (.cons (.asg (.name 4) (.comp (.rng1 (.bin .shl (nE 1) (.idx (.var 3) (nE 0)))) [none,some 2,some 3] (.name 0) .nil (.bin .mul (.call 17 (.cons (.var 1) (.cons (nE 2) .nil))) (.blt .int (.cons (.cmp .notin (.var 0) (.idx (.var 2) (nE 2))) .nil))))) (.cons (.asg (.name 5) (.bin .add (nE 1) (.call 17 (.cons (.var 2) (.cons (nE 4) .nil))))) (.cons (.asg (.name 6) (.comp (.list (.call 20 (.cons (.var 3) .nil))) [none,some 2,some 5,some 4] (.name 0) .nil (.idx (.lst (.cons (.idx (.var 3) (.var 0)) (.cons (.cst V.non) .nil))) (.blt .int (.cons (.cmp .eq (.call 17 (.cons (.var 1) (.cons (.var 2) .nil))) (nE 0)) .nil))))) (.cons (.ifs (.and (.cmp .ne (.var 6) (.lst .nil)) (.cmp .eq (.call 17 (.cons (.var 2) (.cons (nE 4) .nil))) (nE 3))) (.cons (.asg (.name 7) (.call 17 (.cons (.var 2) (.cons (.blt .len (.cons (.var 6) .nil)) .nil)))) (.cons (.ifs (.cmp .isnot (.idx (.var 6) (.var 7)) (.cst V.non)) (.cons (.put (.var 6) (.var 7) (.bin .sub (nE 1) (.idx (.var 6) (.var 7)))) .nil) .nil) .nil)) .nil) (.cons (.ifs (.not (.call 23 (.cons (.var 3) (.cons (.var 4) (.cons (.var 6) .nil))))) (.cons (.ret (.cst (V.bl false))) .nil) .nil) .nil))))))))
noncomputable def b24:Ss:=(.cons (.for_ (.name 1) (.rng1 (.blt .max (.cons (nE 1) (.cons (.blt .min (.cons (.blt .len (.cons (.var 0) .nil)) (.cons (nE 30) .nil))) .nil)))) T7) (.cons (.ret (.cst (V.bl true))) .nil))
theorem t24:Tb.fns[24]?=some ⟨1,8,b24⟩:=by kernel_rfl
noncomputable def Cs:List (List Nat):=[[],[],[],[],[],[],[],[],[],[],[],[],[],[1],[],[4],[],[],[],[],[],[2],[2],[6,7],[2,6]]
theorem gl0:(glT gs)[0]?=some (.tup [N 1,N 2,N 4,N 8,N 16,N 32]):=rfl
section
variable{k:Nat}
noncomputable abbrev I(x:Int):T:=.v (.int x)
noncomputable def stT(g s:Nat):List T:=[N g,N s]
def L0(M:Mem)(n:Nat):Prop:=∃g s,M[n]?=some (stT g s)/\s<2147483648
structure Kept(n:Nat)(M M':Mem):Prop where
 good:L0 M' n
 len:M'.length=M.length
 oth:∀j,j≠n->M'[j]?=M[j]?
theorem Kept.trans{n:Nat}{A B C:Mem}(x:Kept n A B)(y:Kept n B C):Kept n A C:=⟨y.good,y.len.trans x.len,λj hj=>(y.oth j hj).trans (x.oth j hj)⟩
theorem qEj(hk:1<=k){M:Mem}{n m g s:Nat}(hm:0<m/\m<=1000000)(hg:0<g)(e:M[n]?=some [N g,N s])(e':∀y,(M.set n y)[n]?=some y):
  Pk (glT gs) Tb.fns Cs k 17 [.cell n,N m] M=.ok ((N (g % m),true),M.set n [N (g / m),N s]):=by
 rw[qU t17 ⟨rfl,by decide⟩ hk,b17,show Cs.getD 17 []=[] from rfl];simp(disch:=omega) [ZY,JI,e,e',hg];rw[qJ (by simp)]
theorem qFV(hk:1<=k){M:Mem}{n m s:Nat}(hm:0<m/\m<=1000000)(e:M[n]?=some [N 0,N s])(e':∀y,(M.set n y)[n]?=some y){s':Nat}(hs':(s*40692+12345) % 2147483399=s')(hq:s'<2147483399):
  Pk (glT gs) Tb.fns Cs k 17 [.cell n,N m] M=.ok ((N (s' * (s' / 1024+7) % 2147483647 / 32 % m),true),M.set n [N 0,N s']):=by
 rw[qU t17 ⟨rfl,by decide⟩ hk,b17,show Cs.getD 17 []=[] from rfl];have ml1:∀{M:Mem}(x:Nat),zJ M .mul (N x) (N 40692)=some (N (x*40692),true):=λ{M} x=>Zl (.inr (by decide));have ml3:∀{M:Mem}(y:Nat),zJ M .mul (N s') (N y)=some (N (s' * y),true):=λ{M} y=>Zl (.inl (wX hq (by decide)));have md1:∀{M:Mem}(x:Nat),zJ M .mod (N x) (N 2147483399)=some (N (x % 2147483399),true):=λ{M} x=>ZY (by decide);have md2:∀{M:Mem}(x:Nat),zJ M .mod (N x) (N 2147483647)=some (N (x % 2147483647),true):=λ{M} x=>ZY (by decide);have md3:∀{M:Mem}(x:Nat),zJ M .mod (N x) (N m)=some (N (x % m),true):=λ{M} x=>ZY hm.1;have fd1:∀{M:Mem}(x:Nat),zJ M .fdiv (N x) (N 1024)=some (N (x / 1024),true):=λ{M} x=>JI (by decide);have fd2:∀{M:Mem}(x:Nat),zJ M .fdiv (N x) (N 32)=some (N (x / 32),true):=λ{M} x=>JI (by decide);simp[hs',ml1,ml3,md1,md2,md3,fd1,fd2,e,e'];rw[qJ (by simp)]
theorem out(hk:1<=k){M:Mem}{n m:Nat}(g:L0 M n)(hm:0<m/\m<=1000000):∃d M',Pk (glT gs) Tb.fns Cs k 17 [.cell n,N m] M=.ok ((N d,true),M')/\d<m/\Kept n M M':=by
 obtain⟨a,s,e,hb⟩:=g;have hn:n<M.length:=(List.getElem?_eq_some_iff.mp e).1;have e':∀y,(M.set n y)[n]?=some y:=λy=>wN hn;rcases Nat.eq_zero_or_pos a with rfl|hp
 ·have hq:(s*40692+12345) % 2147483399<2147483399:=Nat.mod_lt _ (by decide);exact⟨_,_,qFV hk hm e e' rfl hq,Nat.mod_lt _ hm.1,⟨⟨0,_,e' _,wX hq (by decide)⟩,by simp,λj hj=>by rw[wI (Ne.symm hj)]⟩⟩
 ·exact⟨_,_,qEj hk hm hp e e',Nat.mod_lt _ hm.1,⟨⟨a / m,s,e' _,hb⟩,by simp,λj hj=>by rw[wI (Ne.symm hj)]⟩⟩
theorem qCl{M:Mem}:zJ M .pow (N 10) (N 18)=some (N 1000000000000000000,true):=by rw[qBG (by decide)]
theorem qEV(hk:1<=k){S:List T}{kk:Nat}(hkk:kk<=63)(M:Mem){cl:Int}(hc:(kk<S.length/\S[kk]?=some (I cl))\/(S.length<=kk/\cl=0)):∃g s,Pk (glT gs) Tb.fns Cs k 16 [.fz S,N kk] M=.ok ((.lst (stT g s),true),M)/\s<2147483648:=by
 obtain⟨c,hcc⟩:∃c:Nat,cl % 998244353=(c:Int):=⟨(cl % 998244353).toNat,by omega⟩
 have cb:c<998244353:=by omega
 have md:∀{M:Mem},zJ M .mod (I cl) (N 998244353)=some (N c,true):=λ{M}=>by
  show zJ M .mod (.v (.int cl)) (.v (.int 998244353))=_;rw[Z0 (by decide)];unfold iT;rw[hcc];rfl
 have m1:∀{M:Mem},zJ M .mul (N 7368787) (N kk)=some (N (7368787*kk),true):=λ{M}=>Zl (.inl (by decide));have pw:∀{M:Mem},zJ M .pow (N (c+7368787*kk+17)) (N 3)=some (N ((c+7368787*kk+17) ^ 3),true):=λ{M}=>by
  unfold N;rw[Z4 (by omega)];unfold iT;simp
 have md2:∀{M:Mem}(x:Nat),zJ M .mod (N x) (N 2147483629)=some (N (x % 2147483629),true):=λ{M} x=>ZY (by decide);have hs:(c+7368787*kk+17) ^ 3 % 2147483629<2147483648:=wX (Nat.mod_lt _ (by decide)) (by decide);generalize (c+7368787*kk+17) ^ 3=q at pw hs;have ge:∀{M:Mem},qe M .ge (I cl) (N 1000000000000000000)=some (decide (1000000000000000000<=cl)):=λ{M}=>rfl;by_cases hg:(1000000000000000000:Int)<=cl
 ·obtain⟨gn,rfl⟩:∃gn:Nat,cl=(gn:Int):=⟨cl.toNat,by omega⟩
  refine⟨gn,q % 2147483629,?_,hs⟩;rw[vE hg]at ge;rcases hc with⟨h1,h2⟩|⟨h1,h2⟩
  ·have ix:∀{M:Mem},Qe M (.fz S) (N kk)=some (I gn,true):=λ{M}=>by
    show ((some S).bind λxs=>(L2.ixN xs.length (kk:Int)).bind λj=>(xs[j]?).map λt=>(t,t.lf))=_;rw[Option.bind_some];unfold L2.ixN;rw[if_pos (by omega),if_pos (by omega),Option.bind_some,Int.toNat_natCast,h2];rfl
   rw[qU t16 ⟨rfl,by decide⟩ hk,b16,show Cs.getD 16 []=[] from rfl];simp[h1,ix,qCl,ge,md,m1,pw,md2,lim,stT];rw[qJ rfl];rfl
  ·omega
 ·rw[vD hg]at ge;refine⟨0,q % 2147483629,?_,hs⟩;rcases hc with⟨h1,h2⟩|⟨h1,h2⟩
  ·have ix:∀{M:Mem},Qe M (.fz S) (N kk)=some (I cl,true):=λ{M}=>by
    show ((some S).bind λxs=>(L2.ixN xs.length (kk:Int)).bind λj=>(xs[j]?).map λt=>(t,t.lf))=_;rw[Option.bind_some];unfold L2.ixN;rw[if_pos (by omega),if_pos (by omega),Option.bind_some,Int.toNat_natCast,h2];rfl
   rw[qU t16 ⟨rfl,by decide⟩ hk,b16,show Cs.getD 16 []=[] from rfl];simp[h1,ix,qCl,ge,md,m1,pw,md2,lim,stT];rw[qJ rfl]
  ·subst h2;have h1':¬ kk<S.length:=by omega
   rw[show I 0=N 0 from rfl]at md ge;have ge:∀{M:Mem},qe M .ge (N 0) (N 1000000000000000000)=some false:=λ{M}=>ge;have md:∀{M:Mem},zJ M .mod (N 0) (N 998244353)=some (N c,true):=λ{M}=>md;rw[qU t16 ⟨rfl,by decide⟩ hk,b16,show Cs.getD 16 []=[] from rfl];simp[h1',qCl,ge,md,m1,pw,md2,lim,stT,-qCe];rw[qJ rfl]
theorem bag(hk:1<=k)(ns:List Int){kk:Nat}(hkk:kk<=63)(M:Mem):∃g s,Pk (glT gs) Tb.fns Cs k 16 [.fz (ns.map λn=>.v (.int n)),N kk] M=.ok ((.lst (stT g s),true),M)/\s<2147483648:=by
 by_cases h:kk<ns.length
 ·exact qEV hk hkk M (cl:=ns[kk]) (.inl ⟨by simpa using h,by rw[wK,wA h];rfl⟩)
 ·exact qEV hk hkk M (cl:=0) (.inr ⟨by simp;omega,rfl⟩)
theorem f0(hk:1<=k)(x:Int)(M:Mem):Pk (glT gs) Tb.fns Cs k 0 [I x] M=.ok (bT true,M):=by
 rw[qU t0 ⟨rfl,by decide⟩ hk];simp[b0,ze,qJ]
theorem f0N(hk:1<=k)(i:Nat)(M:Mem):Pk (glT gs) Tb.fns Cs k 0 [N i] M=.ok (bT true,M):=f0 hk (i:Int) M
theorem f1(hk:2<=k)(i e:Nat)(M:Mem):Pk (glT gs) Tb.fns Cs k 1 [N i,N e] M=.ok (bT (decide (i<e)),M):=by
 rw[qU t1 ⟨rfl,by decide⟩ (by omega)];simp(disch:=omega) [b1,f0N,qJ]
theorem f4(hk:1<=k){s:Nat}(hs:s<=5)(M:Mem):Pk (glT gs) Tb.fns Cs k 4 [N s] M=.ok ((N (2 ^ s),true),M):=by
 rw[qU t4 ⟨rfl,by decide⟩ hk];have:s=0\/s=1\/s=2\/s=3\/s=4\/s=5:=by omega
 rcases this with rfl|rfl|rfl|rfl|rfl|rfl<;>simp[b4,gl0,qJ]
theorem f5(hk:2<=k){s:Nat}(h1:1<=s)(hs:s<=5)(M:Mem):Pk (glT gs) Tb.fns Cs k 5 [N s] M=.ok (bT true,M):=by
 rw[qU t5 ⟨rfl,by decide⟩ (by omega)];simp(disch:=omega) [b5,f0N,h1,hs,qJ]
theorem p5{s:Nat}(h:s<=5):2 ^ s<=32:=Nat.le_trans (Nat.pow_le_pow_right (by decide) h) (by decide)
theorem f6(hk:3<=k)(i:Nat)(M:Mem):Pk (glT gs) Tb.fns Cs k 6 [N i] M=.ok (bT (decide (i<2)),M):=by
 rw[qU t6 ⟨rfl,by decide⟩ (by omega),b6,show Cs.getD 6 []=[] from rfl];simp[f1 (k:=k-1) (by omega),qJ]
theorem qFg(hk:4<=k){M:Mem}{t:T}{n:Nat}{x:List Nat}(i:IsS M t (x.map N))(h:x.length=n/\∀v∈x,v<2)(hn:n<=1000):Pk (glT gs) Tb.fns Cs k 7 [t,N n] M=.ok (bT true,M):=by
 rw[qU t7 ⟨rfl,by decide⟩ (by omega),b7,show Cs.getD 7 []=[] from rfl];obtain⟨d,s1,_,s2⟩:=i.src;have s2':=s2 [];rw[List.append_nil]at s2';have c:qR d (.name 0) (pec (glT gs) (Pk (glT gs) Tb.fns Cs (k-1)) .nil) (pe (glT gs) (Pk (glT gs) Tb.fns Cs (k-1)) (.call 6 (.cons (.var 0) .nil))) (x.map N) [] true [none] M=.ok ((.lst (x.map λv=>T.v (.bl (decide (v<2)))),true),M):=by
  have:=QK (d:=d) (c:=pec (glT gs) (Pk (glT gs) Tb.fns Cs (k-1)) .nil) (e:=pe (glT gs) (Pk (glT gs) Tb.fns Cs (k-1)) (.call 6 (.cons (.var 0) .nil))) (M:=M) (σ:=[]) (λ_=>true) (λv=>T.v (.bl (decide (v<2)))) (λ_=>true) x [] true none s2' (by simp[h.1];exact Nat.le_trans hn (by decide)) (λv _=>by simp) (λv _ _=>by simp[f6 (k:=k-1) (by omega),bT]);rw[qk,show (x.all λ_=>true)=true from wF.mpr λ_ _=>rfl]at this;simpa using this
 have al:∀{M:Mem},zr M .all [.lst (x.map λv=>T.v (.bl (decide (v<2))))]=some (bT true):=λ{M}=>by
  rw[N2 (λv=>decide (v<2))];congr 2;rw[wF];exact λv hv=>vE (h.2 v hv)
 have ln:zr M .len [t]=some (N n,true):=by rw[i.len,wL,h.1]
 simp only[B9,qAm,pe_and,qBA,pe_var,a8,qA3,V1,qAB,pe_comp,X0,JY,D8];simp[ze,i.ty,ln,s1,c,al,qJ,-qg]
theorem qBM(hk:3<=k){M:Mem}{t:T}{L:List Nat}{n:Nat}(hI:IsL M t L)(h:∀x∈L,x<n)(hl:L.length<=100):Pk (glT gs) Tb.fns Cs k 2 [t,N n] M=.ok (bT true,M):=by
 rw[qU t2 ⟨rfl,by decide⟩ (by omega),b2,show Cs.getD 2 []=[] from rfl];obtain⟨d,s1,_,s2⟩:=hI.src;have c:qR d (.name 0) (pec (glT gs) (Pk (glT gs) Tb.fns Cs (k-1)) .nil) (pe (glT gs) (Pk (glT gs) Tb.fns Cs (k-1)) (.call 1 (.cons (.var 0) (.cons (.var 1) .nil)))) (L.map N) [] true [none,some (N n)] M=.ok ((.lst (L.map λv=>T.v (.bl (decide (v<n)))),true),M):=by
  have:=QK (d:=d) (c:=pec (glT gs) (Pk (glT gs) Tb.fns Cs (k-1)) .nil) (e:=pe (glT gs) (Pk (glT gs) Tb.fns Cs (k-1)) (.call 1 (.cons (.var 0) (.cons (.var 1) .nil)))) (M:=M) (σ:=[some (N n)]) (λ_=>true) (λv=>T.v (.bl (decide (v<n)))) (λ_=>true) L [] true none s2 (by simp[lim];omega) (λv _=>by simp) (λv _ _=>by simp[f1 (k:=k-1) (by omega),bT]);rw[qk,show (L.all λ_=>true)=true from wF.mpr λ_ _=>rfl]at this;simpa using this
 have al:∀{M:Mem},zr M .all [.lst (L.map λv=>T.v (.bl (decide (v<n))))]=some (bT true):=λ{M}=>by
  rw[N2 (λv=>decide (v<n))];congr 2;rw[wF];exact λv hv=>vE (h v hv)
 simp[ze,hI.ty,s1,c,al,qJ,-qg]
end
theorem w9(a b:Nat):T.unds 0 (stT a b)=true:=j4 0 [a,b]
theorem B6{M:Mem}{n:Nat}{C:Mem}(g:L0 M n):L0 (M++C) n:=by
 obtain⟨a,b,e,h⟩:=g;exact⟨a,b,by rw[List.getElem?_append_left (List.getElem?_eq_some_iff.mp e).1];exact e,h⟩
theorem Qh{M C M':Mem}{n:Nat}(hn:n<M.length)(h:Kept n (M++C) M'):∃M1,M'=M1++C/\Kept n M M1:=by
 have hl:=h.len;rw[List.length_append]at hl;refine⟨M'.take M.length,?_,?_⟩
 ·apply List.ext_getElem?;intro i;by_cases hi:i<M.length
  ·rw[List.getElem?_append_left (by rw[wU];omega),wP hi]
  ·rw[List.getElem?_append_right (by rw[wU];omega),h.oth i (by omega),List.getElem?_append_right (by omega),wU,Nat.min_eq_left (by omega)]
 ·obtain⟨a,b,e,hb⟩:=h.good;refine⟨⟨a,b,by rw[wP hn];exact e,hb⟩,by rw[wU];omega,λj hj=>?_⟩;by_cases hi:j<M.length
  ·rw[wP hi,h.oth j hj,List.getElem?_append_left hi]
  ·rw[wW (by rw[wU];omega),wW (by omega)]
theorem v4{n:Nat}{M M':Mem}(h:WfM M)(k:Kept n M M'):WfM M':=by
 unfold WfM at *;rw[wF]at h ⊢;intro c hc;rw[k.len];obtain⟨j,hj⟩:=List.getElem?_of_mem hc;by_cases e:j=n
 ·subst e;obtain⟨g,s,e1,_⟩:=k.good;rw[e1]at hj;cases hj;exact zK (Nat.zero_le _) _ (w9 g s)
 ·rw[k.oth j e]at hj;exact h c (List.mem_of_getElem? hj)
noncomputable def spo(A:List Nat)(m:Nat):List Nat:=(List.range A.length).filter λi=>decide (m<A.getD i 0)
noncomputable def qH(A:List Nat):List Nat:=(List.range 6).flatMap (spo A)
theorem Ze{A:List Nat}{x:Nat}(h:x∈qH A):x<A.length:=by
 obtain⟨m,_,hx⟩:=List.mem_flatMap.mp h;exact wY.mp (wm.mp hx).1
def Ris(lo hi:Nat):List Nat->Prop
 | []=>True
 |x::L=>lo<=x/\x<hi/\Ris (x+1) hi L
section
variable{k:Nat}
theorem f3L(hk:2<=k){M:Mem}{d:jh}(hd:qd d M=true){t:T}:∀(L:List Nat) (lo n:Nat) (o:Option T),Ris lo n L->∃σ',qq d (.name 3) (pxs (glT gs) (Pk (glT gs) Tb.fns Cs k) [] qCZ) (L.map N) [some t,some (N n),some (N lo),o] M=.ok (.nx σ',M)
 | [],lo,n,o,_=>⟨_,rfl⟩
 |x::L,lo,n,o,⟨h1,h2,h3⟩=>by
  obtain⟨σ',e⟩:=f3L hk hd (t:=t) L (x+1) n (some (N x)) h3;refine⟨σ',?_⟩;have a2:¬ (x<lo):=by omega
  have body:pxs (glT gs) (Pk (glT gs) Tb.fns Cs k) [] qCZ [some t,some (N n),some (N lo),some (N x)] M=.ok (.nx [some t,some (N n),some (N (x+1)),some (N x)],M):=by
   rw[qCZ];simp(disch:=omega) [f1,h2,a2]
  rw[List.map_cons,qq,show qt (.name 3) (N x) [some t,some (N n),some (N lo),o]=some [some t,some (N n),some (N lo),some (N x)] from rfl];dsimp only;rw[body,PR.bind_ok];dsimp only;rw[if_pos hd];exact e
theorem qEx(hk:3<=k){M:Mem}{t:T}{L:List Nat}{n:Nat}(hI:IsL M t L)(h:Ris 0 n L)(hf:t.lf=false):Pk (glT gs) Tb.fns Cs k 3 [t,N n] M=.ok (bT true,M):=by
 rw[qU t3 ⟨rfl,by decide⟩ (by omega),b3,show Cs.getD 3 []=[] from rfl];obtain⟨d,s1,_,s2⟩:=hI.src;obtain⟨σ',e⟩:=f3L (k:=k-1) (by omega) s2 (t:=t) L 0 n none h;simp[ze,hI.ty,s1,e,qJ]
theorem f9r(hk:1<=k)(a b:Nat)(M:Mem):Pk (glT gs) Tb.fns Cs k 8 [N a,N b] M=.ok (bT (decide (a&&& b=b)),M):=by
 rw[qU t8 ⟨rfl,by decide⟩ (by omega),b8,show Cs.getD 8 []=[] from rfl];simp[J2,qJ]
theorem K1{M:Mem}{t:T}{L:List Nat}(h:IsL M t L)(n:Nat):qe M .notin (N n) t=some (!decide (n∈L)):=by
 have a:qe M .notin (N n) t=qe M .notin (N n) (NL L):=by
  have d1:t.dct=none:=by
   cases t with
   |ob o=>have:=h.its;cases this
   |_=>rfl
  show (inT M (N n) t).map _=(inT M (N n) (NL L)).map _;unfold inT;rw[d1,show (NL L).dct=none from rfl,h.its];rfl
 rw[a,Jd]
theorem qFQ{M:Mem}{t:T}{L:List Nat}(h:IsL M t L)(n:Nat):qe M .inn (N n) t=some (decide (n∈L)):=by
 have:=K1 h n;have e:qe M .notin (N n) t=(qe M .inn (N n) t).map (!·):=rfl;rw[e]at this;cases hh:qe M .inn (N n) t with
 |none=>rw[hh]at this;cases this
 |some b=>
  rw[hh]at this;simp at this;rw[this]
theorem kr(hk:2<=k){M:Mem}{ta tk:T}{A K:List Nat}{n i:Nat}(ia:IsS M ta (A.map N))(ik:IsS M tk (K.map N))(hn:A.length=n)(hn5:n<=100)(h0:A[i]?=some 0)(hr:∀p,p<n->p&&& i=i->p∈K):Pk (glT gs) Tb.fns Cs k 11 [ta,tk,N i] M=.ok (bT true,M):=by
 rw[qU t11 ⟨rfl,by decide⟩ (by omega),b11,show Cs.getD 11 []=[] from rfl];have ln:=ia.isL.len;rw[hn]at ln;have rg:=zw (n:=n) (by omega);have c:=ZA (c:=pec (glT gs) (Pk (glT gs) Tb.fns Cs (k-1)) (.cons (.call 8 (.cons (.var 0) (.cons (.var 1) .nil))) .nil)) (e:=pe (glT gs) (Pk (glT gs) Tb.fns Cs (k-1)) (.var 0)) (M:=M) (σ:=[some (N i)]) (o:=none) (its:=List.range n) (λp=>decide (p&&& i=i)) (λx=>x) (by simp[lim];omega) (λx _=>by simp[f9r (k:=k-1) (by omega)]) (λx _ _=>by simp);rw[List.map_id']at c;have hS:∀p∈(List.range n).filter (λp=>decide (p&&& i=i)),p∈K:=λp hp=>hr p (wY.mp (wm.mp hp).1) (vG (wm.mp hp).2);have lS:((List.range n).filter λp=>decide (p&&& i=i)).length<=n:=Nat.le_trans (wo _ _) (by simp);generalize (List.range n).filter (λp=>decide (p&&& i=i))=S at *;have c2:=Qk (M:=M) (σ:=[some tk]) (c:=pec (glT gs) (Pk (glT gs) Tb.fns Cs (k-1)) .nil) (e:=pe (glT gs) (Pk (glT gs) Tb.fns Cs (k-1)) (.cmp .inn (.var 0) (.var 1))) (λ_=>true) (λp=>T.v (.bl (decide (p∈K)))) (λ_=>true) S [] true none (by simp[lim];omega) (λx _=>by simp) (λx _ _=>by
  have:=qFQ ik.isL x;simp[this,bT])
 rw[qk,List.nil_append,show (S.all λ_=>true)=true from wF.mpr λ_ _=>rfl]at c2;have al:∀{M:Mem},zr M .all [.lst (S.map λp=>T.v (.bl (decide (p∈K))))]=some (bT true):=λ{M}=>by
  rw[N2 (λp=>decide (p∈K))];congr 2;rw[wF];exact λp hp=>vE (hS p hp)
 have i0:=ia.isL.idx h0;have n1:=ia.lf;have n2:=ik.lf;have sN:ZR M (NL S)=some (S.map N,[]):=rfl;generalize NL S=tS at *;generalize S.map N=SN at *;generalize (S.map λp=>T.v (.bl (decide (p∈K))))=SB at *;simp[ln,rg,c,-jH,-qg,i0,sN,c2,al,qJ]
structure Pn(s:Nat)(A K:List Nat):Prop where
 s1:1<=s
 s5:s<=5
 len:A.length=2 ^ s
 a7:∀x∈A,x<7
 ris:Ris 0 (2 ^ s) K
 zero:∀i∈K,A[i]?=some 0
 up:∀i∈K,∀p,p<2 ^ s->p&&& i=i->p∈K
theorem M7{hi:Nat}:∀{L:List Nat}{lo:Nat},Ris lo hi L->L.length<=hi-lo
 | [],_,_=>Nat.zero_le _
 |x::r,lo,⟨h1,h2,h3⟩=>by have:=M7 h3;rw[List.length_cons];omega
theorem qFF(hk:5<=k){s:Nat}{A K:List Nat}(h:Pn s A K){M:Mem}{ta tk:T}(ia:IsS M ta (A.map N))(ik:IsS M tk (K.map N)):Pk (glT gs) Tb.fns Cs k 10 [.tup [N s,ta,tk]] M=.ok (bT true,M):=by
 rw[qU t10 ⟨rfl,by decide⟩ (by omega),b10,show Cs.getD 10 []=[] from rfl];have n5:=p5 h.s5;have e5:=f5 (k:=k-1) (by omega) h.s1 h.s5 M;have e4:=f4 (k:=k-1) (by omega) h.s5 M;have e2:=qBM (k:=k-1) (by omega) ia.isL h.a7 (by rw[h.len];omega);have ln:=ia.isL.len;rw[h.len]at ln;have e3:=qEx (k:=k-1) (by omega) ik.isL h.ris ik.lf;obtain⟨d,s1,_,s2⟩:=ik.isL.src;have kl:K.length<=100:=by have:=M7 h.ris;omega
 have c:qR d (.name 0) (pec (glT gs) (Pk (glT gs) Tb.fns Cs (k-1)) .nil) (pe (glT gs) (Pk (glT gs) Tb.fns Cs (k-1)) (.call 11 (.cons (.idx (.var 1) (nE 1)) (.cons (.idx (.var 1) (nE 2)) (.cons (.var 0) .nil))))) (K.map N) [] true [none,some (.tup [N s,ta,tk])] M=.ok ((.lst (K.map λ_=>T.v (.bl true)),true),M):=by
  have:=QK (d:=d) (c:=pec (glT gs) (Pk (glT gs) Tb.fns Cs (k-1)) .nil) (e:=pe (glT gs) (Pk (glT gs) Tb.fns Cs (k-1)) (.call 11 (.cons (.idx (.var 1) (nE 1)) (.cons (.idx (.var 1) (nE 2)) (.cons (.var 0) .nil))))) (M:=M) (σ:=[some (.tup [N s,ta,tk])]) (λ_=>true) (λ_=>T.v (.bl true)) (λ_=>true) K [] true none s2 (by simp only[List.length_nil,Nat.zero_add,lim];omega) (λv _=>by simp) (λv hv _=>by
   have e:=kr (k:=k-1) (by omega) ia ik h.len (by omega) (h.zero v hv) (h.up v hv);simp[e,bT])
  rw[qk,show (K.all λ_=>true)=true from wF.mpr λ_ _=>rfl]at this;simpa using this
 have al:∀{M:Mem},zr M .all [.lst (K.map λ_=>T.v (.bl true))]=some (bT true):=λ{M}=>by
  rw[N2 (λ_=>true),show (K.all λ_=>true)=true from wF.mpr λ_ _=>rfl]
 have n1:=ia.lf;have n2:=ik.lf;generalize (K.map λ_=>T.v (.bl true))=KB at *;generalize K.map N=KN at *;simp[ze,e5,e4,e2,ln,e3,s1,c,al,qJ,-qg]
theorem qEQ(hk:6<=k){s:Nat}{A K:List Nat}(h:Pn s A K){M:Mem}{ta tk:T}(ia:IsS M ta (A.map N))(ik:IsS M tk (K.map N)):Pk (glT gs) Tb.fns Cs k 12 [.tup [N s,ta,tk]] M=.ok ((.v .non,true),M):=by
 rw[qU t12 ⟨rfl,by decide⟩ (by omega),b12,show Cs.getD 12 []=[] from rfl];simp[qFF (k:=k-1) (by omega) h ia ik,X3]
theorem qBq:∀(i:Nat) (L:List Nat),jR i (L.map N)=(List.range L.length).map λj=>T.tup [N (i+j),N (L.getD j 0)]
 |i,[]=>rfl
 |i,x::L=>by
  rw[List.map_cons,jR,qBq (i+1) L,List.length_cons,List.range_succ_eq_map,List.map_cons,wl];congr 1;refine List.map_congr_left λj _=>?_;show T.tup [N (i+1+j),N (L.getD j 0)]=T.tup [N (i+(j+1)),N ((x::L).getD (j+1) 0)];rw[show i+1+j=i+(j+1) by omega];simp
theorem qAR{M:Mem}{d:jh}(hd:qd d M=true){P:Nat->List T->Mem->PR (TB×Mem)}{m:Nat}(f:Nat->Nat):∀(js ys:List Nat) (o0 o1:Option T),ys.length+js.length<=1000 ->
  qR d (.tup [0,1]) (pec (glT gs) P (.cons (.cmp .gt (.var 1) (.var 2)) .nil)) (pe (glT gs) P (.var 0)) (js.map λj=>T.tup [N j,N (f j)]) (ys.map N) true [o0,o1,some (N m)] M=.ok ((NL (ys++js.filter λj=>decide (m<f j)),true),M)
 | [],ys,o0,o1,_=>by simp[qR,NL]
 |j::js,ys,o0,o1,hl=>by
  simp at hl;rw[List.map_cons,qR,show qt (.tup [0,1]) (.tup [N j,N (f j)]) [o0,o1,some (N m)]=some [some (N j),some (N (f j)),some (N m)] from rfl];dsimp only;have c1:pec (glT gs) P (.cons (.cmp .gt (.var 1) (.var 2)) .nil) [some (N j),some (N (f j)),some (N m)] M=.ok (decide (m<f j),M):=by simp
  have c2:pe (glT gs) P (.var 0) [some (N j),some (N (f j)),some (N m)] M=.ok ((N j,true),M):=by simp
  rw[c1,PR.bind_ok];dsimp only;by_cases h:m<f j
  ·rw[vE h,if_pos rfl,c2,PR.bind_ok];dsimp only;rw[if_pos ⟨by simp[lim];omega,hd⟩,show ys.map N++[N j]=(ys++[j]).map N by simp,Bool.and_true,qAR hd f js (ys++[j]) _ _ (by simp;omega),List.filter_cons_of_pos (by simpa using h)];simp
  ·rw[vD h,if_neg (by decide),if_pos hd,qAR hd f js ys _ _ (by omega),wj (by simpa using h)]
theorem qDC{M:Mem}{n:Nat}{xs:List T}{L:List Nat}(h:M[n]?=some xs)(hl:xs.length+L.length<=1000):JC .ext n [NL L] M=some ((.v .non,true),M.set n (xs++L.map N)):=by
 show (M[n]?).bind (λxs=>((NL L).mu M).bind λys=>if (NL L).isC n=false/\xs.length+ys.length<=lim then _ else _)=_;rw[h,Option.bind_some];show (some (L.map N)).bind _=_;rw[Option.bind_some,if_pos ⟨rfl,by rw[wL];exact Nat.le_trans hl (by decide)⟩]
theorem qD0{M:Mem}{s:Nat}{ta tk:T}{A:List Nat}(ia:IsS M ta (A.map N))(hA:A.length<=32):∀(ms:List Nat) (W:List Nat) (o:Option T),W.length+ms.length*32<=900->∃o',qq [] (.name 2) (pxs (glT gs) (Pk (glT gs) Tb.fns Cs k) [1] Y7) (ms.map N) [some (.tup [N s,ta,tk]),some (.cell M.length),o] (M++[W.map N])=.ok (.nx [some (.tup [N s,ta,tk]),some (.cell M.length),o'],M++[(W++ms.flatMap (spo A)).map N])
 | [],W,o,_=>⟨o,by simp[qq]⟩
 |m::ms,W,o,hl=>by
  have ls:(spo A m).length<=32:=Nat.le_trans (wo _ _) (by simp;exact hA);simp at hl;obtain⟨o',e⟩:=qD0 ia hA (s:=s) (tk:=tk) ms (W++spo A m) (some (N m)) (by simp;omega);refine⟨o',?_⟩;obtain⟨d,_,s1,s2⟩:=(ia.app (C:=[W.map N])).isL.src;have en:=qBq 0 A;simp only[Nat.zero_add]at en;have c:=qAR (M:=M++[W.map N]) s2 (P:=Pk (glT gs) Tb.fns Cs k) (m:=m) (λj=>A.getD j 0) (List.range A.length) [] none none (by simp;omega);rw[List.map_nil,List.nil_append,<-en]at c;have c:qR d (.tup [0,1]) (pec (glT gs) (Pk (glT gs) Tb.fns Cs k) (.cons (.cmp .gt (.var 1) (.var 2)) .nil)) (pe (glT gs) (Pk (glT gs) Tb.fns Cs k) (.var 0)) (jR 0 (A.map N)) [] true [none,none,some (N m)] (M++[W.map N])=.ok ((NL (spo A m),true),M++[W.map N]):=c;have mt:JC .ext M.length [NL (spo A m)] (M++[W.map N])=some ((.v .non,true),M++[(W++spo A m).map N]):=by
   rw[qDC (xs:=W.map N) (by simp) (by simp;omega),wS _ _ (by omega)];simp
  have nf:=ia.lf;have st:∀a b c z:Option T,[a,b,c].set 2 z=[a,b,z]:=λ_ _ _ _=>rfl;have body:pxs (glT gs) (Pk (glT gs) Tb.fns Cs k) [1] Y7 [some (.tup [N s,ta,tk]),some (.cell M.length),some (N m)] (M++[W.map N])=.ok (.nx [some (.tup [N s,ta,tk]),some (.cell M.length),some (N m)],M++[(W++spo A m).map N]):=by
   clear e en;generalize NL (spo A m)=tq at *;generalize A.map N=AN at *;generalize M++[(W++spo A m).map N]=M2 at *;generalize M++[W.map N]=M1 at *;rw[Y7];simp[s1,c,-jH,mt]
  rw[List.map_cons,zI,st,body,PR.bind_ok,List.flatMap_cons,<-wM];exact e
theorem qBD(hk:1<=k){M:Mem}(hW:WfM M){s:Nat}{ta tk:T}{A:List Nat}(ia:IsS M ta (A.map N))(hA:A.length<=32):Pk (glT gs) Tb.fns Cs k 13 [.tup [N s,ta,tk]] M=.ok ((NL (qH A),true),M):=by
 rw[qU t13 ⟨rfl,by decide⟩ (by omega),show Cs.getD 13 []=[1] from rfl];obtain⟨o',e⟩:=qD0 (k:=k-1) (s:=s) (tk:=tk) ia hA (List.range 6) [] none (by simp);have rg:=zw (n:=6) (by decide);have th:thaw M.length (.lst [])=(.cell M.length,[[]]):=rfl;rw[List.nil_append,List.map_nil]at e;have ex:pxs (glT gs) (Pk (glT gs) Tb.fns Cs (k-1)) [1] b13 ([T.tup [N s,ta,tk]].map some++List.replicate (3-1) none) M=.ok (.rt (.cell M.length,false),M++[(qH A).map N]):=by
  unfold qH;generalize (List.range 6).map N=its at *;generalize ((List.range 6).flatMap (spo A)).map N=fm at *;rw[b13];simp[th,rg,e,lim]
 rw[ex];exact zp rfl hW (by simp) (by simp) (Zm _) false
theorem qEl{M:Mem}(A B:List Nat)(h:A.length+B.length<=1000):zJ M .add (NL A) (NL B)=some (NL (A++B),true):=by
 unfold NL;rw[qAr (by simp[lim];omega),<-wz];exact congrArg some (qEs _)
end
noncomputable def oT:Option Nat->T
 |none=>.v .non
 |some x=>N x
theorem X8(o:Option Nat):(oT o).lf=true:=by cases o<;>rfl
theorem E3:∀L:List (Option Nat),T.lfs (L.map oT)=true
 | []=>rfl
 |x::r=>by rw[List.map_cons,jq,E3 r,X8];rfl
noncomputable abbrev CL(L:List (Option Nat)):T:=.lst (L.map oT)
theorem qDL{M:Mem}(o:Option Nat):qe M .is (oT o) (.v .non)=some o.isNone:=by cases o<;>rfl
theorem zS{M:Mem}(o:Option Nat):qe M .isnot (oT o) (.v .non)=some o.isSome:=by cases o<;>rfl
theorem qCd(a b:Option Nat):eqF (match a with|none=>.non|some x=>.int (x:Int)) (match b with|none=>.non|some x=>.int (x:Int))=some (decide (a=b)):=by
 cases a with
 |none=>cases b<;>rfl
 |some x=>cases b with
  |none=>rfl
  |some y=>
   show (some ((x:Int)==(y:Int)):Option Bool)=_;congr 1;rw[wa];simp;omega
theorem qAL{M:Mem}{d:Nat}(a b:Option Nat):eqT M d (oT a) (oT b)=some (decide (a=b)):=by
 rw[<-qCd a b];cases d<;>cases a<;>cases b<;>rfl
theorem qCz{M:Mem}(a b:Option Nat):qe M .ne (oT a) (oT b)=some (!decide (a=b)):=by
 show (eqT M 4 _ _).map _=_;rw[qAL];rfl
theorem L1{M:Mem}{d:Nat}:∀L:List (Option Nat),qi (eqT M d) (L.map oT) (L.map oT)=some (L.map λ_=>true)
 | []=>rfl
 |x::r=>by
  rw[List.map_cons,qi,qAL,L1 r,vE rfl];rfl
theorem qBr{α:Type}(L:List α):(L.map λ_=>true).all id=true:=by
 rw[wF];intro b hb;obtain⟨_,_,rfl⟩:=we.mp hb;rfl
theorem qBY{M:Mem}{t u:T}{L:List (Option Nat)}{d:Nat}(h:IsS M t (L.map oT))(k:IsS M u (L.map oT)):eqT M (d+1) t u=some true:=by
 rw[h.eqT k rfl (L1 L),qBr]
noncomputable def stp(c:List (Option Nat))(s:Nat)(th:Option Nat):Option (List (Option Nat)):=match c.getD s none,th with
 |none,th=>some (c.set s th)
 |some _,none=>some c
 |some u,some v=>if v=u then some c else none
noncomputable def rn:List (Nat×Option Nat)->List (Option Nat)->Option (List (Option Nat))
 | [],c=>some c
 |q::r,c=>(stp c q.1 q.2).bind (rn r)
theorem ZC{c:List (Option Nat)}{s:Nat}{th:Option Nat}(h:c.getD s none=none):stp c s th=some (c.set s th):=by unfold stp;rw[h]
theorem Jr{c:List (Option Nat)}{s u:Nat}(h:c.getD s none=some u):stp c s none=some c:=by unfold stp;rw[h]
theorem Jo{c:List (Option Nat)}{s u:Nat}(h:c.getD s none=some u):stp c s (some u)=some c:=by unfold stp;rw[h];exact if_pos rfl
theorem Zn{c:List (Option Nat)}{s u v:Nat}(h:c.getD s none=some u)(hv:v≠u):stp c s (some v)=none:=by unfold stp;rw[h];exact if_neg hv
theorem K3(s:Nat)(th:Option Nat)(r:List (Nat×Option Nat))(c:List (Option Nat)):rn ((s,th)::r) c=(stp c s th).bind (rn r):=rfl
theorem m7{c c':List (Option Nat)}{s:Nat}{th:Option Nat}(h:stp c s th=some c'):c'.length=c.length:=by
 unfold stp at h;split at h
 ·cases h;simp
 ·cases h;rfl
 ·split at h<;>cases h;rfl
theorem k9:∀{q:List (Nat×Option Nat)}{c c':List (Option Nat)},rn q c=some c'->c'.length=c.length
 | [],c,c',h=>by cases h;rfl
 |x::r,c,c',h=>by
  obtain⟨c1,h1,h2⟩:=Option.bind_eq_some_iff.mp h;rw[k9 h2,m7 h1]
def Sg(L:List (Option Nat)):Prop:=∀o∈L,∀v,o=some v->v<2
theorem qAo{c c':List (Option Nat)}{s:Nat}{th:Option Nat}(h:stp c s th=some c')(hc:Sg c)(ht:∀v,th=some v->v<2):Sg c':=by
 unfold stp at h;split at h
 ·cases h;intro o ho v hv;rcases List.mem_or_eq_of_mem_set ho with q|q
  ·exact hc o q v hv
  ·exact ht v (by rw[<-q];exact hv)
 ·cases h;exact hc
 ·split at h<;>cases h;exact hc
theorem qAq:∀{q:List (Nat×Option Nat)}{c c':List (Option Nat)},rn q c=some c'->Sg c->(∀x∈q,∀v,x.2=some v->v<2)->Sg c'
 | [],c,c',h,hc,_=>by cases h;exact hc
 |x::r,c,c',h,hc,hq=>by
  obtain⟨c1,h1,h2⟩:=Option.bind_eq_some_iff.mp h;exact qAq h2 (qAo h1 hc (hq x (by simp))) λy hy=>hq y (by simp[hy])
noncomputable def c0(n:Nat)(K:List Nat):List (Option Nat):=(List.range n).map λp=>if p∈K then some 0 else none
theorem N7(n:Nat)(K:List Nat):(c0 n K).length=n:=by simp[c0]
theorem qDX(n:Nat)(K:List Nat):Sg (c0 n K):=by
 intro o ho v hv;obtain⟨p,_,rfl⟩:=we.mp ho;split at hv<;>cases hv;omega
noncomputable def prs(A:List Nat)(L:List (Option Nat)):List (Nat×Option Nat):=(List.range (qH A).length).map λi=>((qH A).getD i 0,L.getD i none)
theorem V3{L:List (Option Nat)}{i:Nat}(h:i<L.length):(L.map oT)[i]?=some (oT (L.getD i none)):=by
 rw[wK,wG,wA h];rfl
theorem F9{i:Tg}{b:TS->Mem->RSt}{x:T}{r:List T}{σ σ1:TS}{M:Mem}(h:qt i x σ=some σ1):qq [] i b (x::r) σ M=(b σ1 M).bind λp=>match p.1 with
   | .nx σ2=>qq [] i b r σ2 p.2
   | .ct σ2=>qq [] i b r σ2 p.2
   | .bk σ2=>.ok (.nx σ2,p.2)
   | .rt t=>.ok (.rt t,p.2):=by
 rw[qq,h];rfl
theorem F7{M C:Mem}(hW:WfM M)(c:Nat):ZJ M.length (.exc c (M++C))=.exc c M:=by
 show (if (M++C).length=M.length then _ else if ((M++C).take M.length).all (T.unds M.length)=true then _ else _)=_;by_cases hb:(M++C).length=M.length
 ·have:C=[]:=List.length_eq_zero_iff.mp (by simp at hb;simp[hb]);subst this;rw[if_pos hb,List.append_nil]
 ·rw[if_neg hb,List.take_left' rfl,if_pos (show M.all (T.unds M.length)=true from hW)]
theorem jk{α β:Type}(c:Nat)(M:Mem)(f:α->PR β):(PR.exc c M:PR α).bind f=.exc c M:=rfl
section
variable{k:Nat}
theorem f6s(hk:3<=k)(i:Nat)(M:Mem):Pk (glT gs) Tb.fns Cs k 6 [N i] M=.ok (bT (decide (i<2)),M):=by
 rw[qU t6 ⟨rfl,by decide⟩ (by omega)];simp(disch:=omega) [b6,f1,qJ]
theorem f9c(hk:4<=k){L:List (Option Nat)}(hs:Sg L)(hl:L.length<=1000)(M:Mem):Pk (glT gs) Tb.fns Cs k 9 [CL L,N L.length] M=.ok (bT true,M):=by
 rw[qU t9 ⟨rfl,by decide⟩ (by omega),b9,show Cs.getD 9 []=[] from rfl];have iS:IsS M (CL L) (L.map oT):=.inl rfl;have ln:=iS.len;rw[wL]at ln;have c:=d9 (d:=[]) (gl:=glT gs) (P:=Pk (glT gs) Tb.fns Cs (k-1)) (e:=pe (glT gs) (Pk (glT gs) Tb.fns Cs (k-1)) (.or (.cmp .is (.var 0) (.cst V.non)) (.call 6 (.cons (.var 0) .nil)))) (σ:=[]) (M:=M) (λ_=>T.v (.bl true)) (λ_=>true) rfl (L.map oT) [] true none (by simp[lim];omega) (λx hx=>by
  obtain⟨o,ho,rfl⟩:=we.mp hx;cases o with
  |none=>
   have i:qe M .is (oT none) (.v .non)=some true:=qDL none;simp[i,X8,bT]
  |some v=>
   have i:qe M .is (N v) (.v .non)=some false:=qDL (some v);have h2:=hs _ ho v rfl;have e6:=f6s (k:=k-1) (by omega) v M;rw[vE h2]at e6;show pe _ _ _ [some (N v)] M=_;simp[i,e6,bT])
 rw[wl,show ((L.map oT).all λ_=>true)=true from wF.mpr λ_ _=>rfl,List.nil_append]at c;have al:∀{M:Mem},zr M .all [.lst (L.map ((λ_=>T.v (.bl true))∘oT))]=some (bT true):=λ{M}=>by
  have:=N2 (M:=M) (λ_:Option Nat=>true) L;rw[show (L.all λ_=>true)=true from wF.mpr λ_ _=>rfl]at this;exact this
 have sr:ZR M (CL L)=some (L.map oT,[]):=rfl;have ty:zd M (CL L)=some "list":=rfl;generalize (L.map ((λ_=>T.v (.bl true))∘oT))=KB at *;have nf:T.lf (CL L)=false:=by simp
 generalize CL L=cl at *;generalize L.map oT=LO at *;simp[ze,ty,ln,sr,c,-qg,al,qJ]
theorem Y2{P:Nat->List T->Mem->PR (TB×Mem)}{M0:Mem}{a0 a1 a2:Option T}:∀(q:List (Nat×Option Nat)) (C:List (Option Nat)) (o3 o5:Option T),(∀x∈q,x.1<C.length)->∃(p3 p5:Option T) (C2:List (Option Nat)),
  qq [] (.tup [3,5]) (pxs (glT gs) P [4] QX) (q.map λx=>T.tup [N x.1,oT x.2]) [a0,a1,a2,o3,some (.cell M0.length),o5] (M0++[C.map oT])=(match rn q C with
   |some C'=>.ok (.nx [a0,a1,a2,p3,some (.cell M0.length),p5],M0++[C'.map oT])
   |none=>.exc 4 (M0++[C2.map oT]))
 | [],C,o3,o5,_=>⟨o3,o5,C,rfl⟩
 | ⟨s,th⟩::q,C,o3,o5,h=>by
  have hs:s<C.length:=h ⟨s,th⟩ (by simp);have iS:IsS (M0++[C.map oT]) (.cell M0.length) (C.map oT):=.inr ⟨_,rfl,by simp⟩;have ix:Qe (M0++[C.map oT]) (.cell M0.length) (N s)=some (oT (C.getD s none),true):=by rw[iS.idx,V3 hs,Option.map_some,X8]
  have st:qt (.tup [3,5]) (.tup [N s,oT th]) [a0,a1,a2,o3,some (.cell M0.length),o5]=some [a0,a1,a2,some (N s),some (.cell M0.length),some (oT th)]:=rfl;have pt:n6 (M0++[C.map oT]) (.cell M0.length) (N s) (oT th)=some (M0++[(C.set s th).map oT]):=by
   rw[L7 (xs:=C.map oT) (by simp) (by simpa using hs),wS _ _ (Nat.le_refl _),vA,List.map_set];rfl
  have i1:∀{M:Mem},qe M .is (oT (C.getD s none)) (.v .non)=some (C.getD s none).isNone:=λ{M}=>qDL _;have i2:∀{M:Mem},qe M .isnot (oT th) (.v .non)=some th.isSome:=λ{M}=>zS _;have i3:∀{M:Mem},qe M .ne (oT th) (oT (C.getD s none))=some (!decide (th=C.getD s none)):=λ{M}=>qCz _ _;have lo:=X8 th;rw[List.map_cons,F9 st,K3];cases hc:C.getD s none with
  |none=>
   rw[hc]at i1 i3 ix;obtain⟨p3,p5,C2,e⟩:=Y2 (P:=P) (M0:=M0) (a0:=a0) (a1:=a1) (a2:=a2) q (C.set s th) (some (N s)) (some (oT th)) λx hx=>by simpa using h x (by simp[hx])
   refine⟨p3,p5,C2,?_⟩;have body:pxs (glT gs) P [4] QX [a0,a1,a2,some (N s),some (.cell M0.length),some (oT th)] (M0++[C.map oT])=.ok (.nx [a0,a1,a2,some (N s),some (.cell M0.length),some (oT th)],M0++[(C.set s th).map oT]):=by
    clear e;generalize (C.set s th).map oT=CS at *;generalize M0++[CS]=M2 at *;generalize M0++[C.map oT]=M1 at *;rw[QX];simp[ix,i1,pt,-T3,lo,-jx]
   rw[body,PR.bind_ok,ZC hc];exact e
  |some u=>
   rw[hc]at i1 i3 ix;cases th with
   |none=>
    obtain⟨p3,p5,C2,e⟩:=Y2 (P:=P) (M0:=M0) (a0:=a0) (a1:=a1) (a2:=a2) q C (some (N s)) (some (oT none)) λx hx=>by simpa using h x (by simp[hx])
    refine⟨p3,p5,C2,?_⟩;have body:pxs (glT gs) P [4] QX [a0,a1,a2,some (N s),some (.cell M0.length),some (oT none)] (M0++[C.map oT])=.ok (.nx [a0,a1,a2,some (N s),some (.cell M0.length),some (oT none)],M0++[C.map oT]):=by
     clear e;generalize M0++[C.map oT]=M1 at *;rw[QX];simp[ix,i1,i2,lo,-jx]
    rw[body,PR.bind_ok,Jr hc];exact e
   |some v=>
    by_cases hv:v=u
    ·subst hv;obtain⟨p3,p5,C2,e⟩:=Y2 (P:=P) (M0:=M0) (a0:=a0) (a1:=a1) (a2:=a2) q C (some (N s)) (some (oT (some v))) λx hx=>by simpa using h x (by simp[hx])
     refine⟨p3,p5,C2,?_⟩;rw[vE rfl]at i3;have body:pxs (glT gs) P [4] QX [a0,a1,a2,some (N s),some (.cell M0.length),some (oT (some v))] (M0++[C.map oT])=.ok (.nx [a0,a1,a2,some (N s),some (.cell M0.length),some (oT (some v))],M0++[C.map oT]):=by
      clear e;generalize M0++[C.map oT]=M1 at *;generalize oT (some v)=tv at *;rw[QX];simp[ix,i1,i2,i3,lo,-jx]
     rw[body,PR.bind_ok,Jo hc];exact e
    ·refine⟨none,none,C,?_⟩;rw[vD (show ¬ (some v=some u) from λz=>hv (Option.some.inj z))]at i3;have body:pxs (glT gs) P [4] QX [a0,a1,a2,some (N s),some (.cell M0.length),some (oT (some v))] (M0++[C.map oT])=.exc 4 (M0++[C.map oT]):=by
      generalize M0++[C.map oT]=M1 at *;generalize oT (some v)=tv at *;generalize oT (some u)=tu at *;rw[QX];simp[ix,i1,i2,i3,lo,jk,-jx]
     rw[body,jk,Zn hc hv];rfl
end
end My
namespace My
open PySem PySem.Spec PI
open L2 (V)
section
variable{k:Nat}
theorem qEn(hk:1<=k)(x:Nat)(M:Mem):Pk (glT gs) Tb.fns Cs k 18 [N x] M=.ok (bT true,M):=by
 rw[qU t18 ⟨rfl,by decide⟩ hk];simp[b18,ze,qJ]
end
theorem N3(n:Nat):∀L:List (Option Nat),jY n (L.map oT)=(L.map oT,[])
 | []=>rfl
 |o::r=>by
  have a:thaw n (oT o)=(oT o,[]):=by cases o<;>simp[oT,thaw,N]
  rw[List.map_cons,jY,a];dsimp only;rw[List.length_nil,Nat.add_zero,N3 n r];rfl
theorem Zv(n:Nat)(L:List (Option Nat)):thaw n (CL L)=(.cell n,[L.map oT]):=by
 rw[thaw,N3];rfl
theorem Jj(c:List (Option Nat))(s:Nat):c.set s (c.getD s none)=c:=by
 by_cases h:s<c.length
 ·rw[wG,wA h];exact List.set_getElem_self h
 ·exact List.set_eq_of_length_le (by omega)
theorem y3(c:List (Option Nat))(s:Nat):stp c s none=some c:=by
 cases h:c.getD s none with
 |none=>rw[ZC h,<-h,Jj]
 |some u=>exact Jr h
theorem o9{A:List Nat}{L:List (Option Nat)}(h:L.length=(qH A).length):List.zipWith (λa b=>T.tup [a,b]) ((qH A).map N) (L.map oT)=(prs A L).map λx=>T.tup [N x.1,oT x.2]:=by
 unfold prs;refine List.ext_getElem? λi=>?_;rw[wl,wK,List.getElem?_zipWith];by_cases hi:i<(qH A).length
 ·rw[wf hi,wK,wK,wA hi,wA (show i<L.length by omega)];simp[wG,hi,show i<L.length by omega]
 ·rw[wW (l:=(qH A).map N) (by simp;omega),wW (l:=List.range (qH A).length) (by simp;omega)];rfl
theorem qBO{s:Nat}{A K:List Nat}(h:Pn s A K){L:List (Option Nat)}:∀x∈prs A L,x.1<(c0 (2 ^ s) K).length:=λx hx=>by
 obtain⟨i,hi,rfl⟩:=we.mp hx;have hi:=wY.mp hi;rw[N7,<-h.len];refine Ze ?_;show (qH A).getD i 0∈qH A;rw[wG,wA hi];exact wg hi
theorem zT{A:List Nat}(hA:A.length<=32):(qH A).length<=192:=by
 have:∀ms:List Nat,(ms.flatMap (spo A)).length<=ms.length*32:=λms=>by
  induction ms with
  |nil=>simp
  |cons m r ih=>
   rw[List.flatMap_cons,List.length_append,List.length_cons];have:(spo A m).length<=32:=Nat.le_trans (wo _ _) (by simp;exact hA);omega
 exact this (List.range 6)
section
variable{k:Nat}
theorem qEB(hk:9<=k){s:Nat}{A K:List Nat}(h:Pn s A K){L:List (Option Nat)}(hL:L.length=(qH A).length)(hs:Sg L){M:Mem}(hW:WfM M):Pk (glT gs) Tb.fns Cs k 15 [.tup [N s,NL A,NL K],CL L] M=(match rn (prs A L) (c0 (2 ^ s) K) with
  |some C=>.ok ((CL C,true),M)
  |none=>.exc 4 M):=by
 rw[qU t15 ⟨rfl,by decide⟩ (by omega),show Cs.getD 15 []=[4] from rfl];have n5:=p5 h.s5;have sl:=zT (A:=A) (by rw[h.len];exact n5);have e12:=qEQ (k:=k-1) (by omega) h (M:=M) (ta:=NL A) (tk:=NL K) (.inl rfl) (.inl rfl);have e13:=qBD (k:=k-1) (by omega) hW (s:=s) (tk:=NL K) (A:=A) (ta:=NL A) (.inl rfl) (by rw[h.len];exact n5);have e9:=f9c (k:=k-1) (by omega) hs (by omega) M;have ln:=(IsL.nl M (qH A)).len;rw[<-hL]at ln;have e4:=f4 (k:=k-1) (by omega) h.s5 M;have rg:=zw (n:=2 ^ s) (by omega);have c:qR [] (.name 0) (pec (glT gs) (Pk (glT gs) Tb.fns Cs (k-1)) .nil) (pe (glT gs) (Pk (glT gs) Tb.fns Cs (k-1)) (.ite (.cmp .inn (.var 0) (.idx (.var 1) (nE 2))) (nE 0) (.cst V.non))) ((List.range (2 ^ s)).map N) [] true [none,some (.tup [N s,NL A,NL K])] M=.ok ((CL (c0 (2 ^ s) K),true),M):=by
  have z:=Qk (M:=M) (σ:=[some (.tup [N s,NL A,NL K])]) (c:=pec (glT gs) (Pk (glT gs) Tb.fns Cs (k-1)) .nil) (e:=pe (glT gs) (Pk (glT gs) Tb.fns Cs (k-1)) (.ite (.cmp .inn (.var 0) (.idx (.var 1) (nE 2))) (nE 0) (.cst V.non))) (λ_=>true) (λp=>oT (if p∈K then some 0 else none)) (λ_=>true) (List.range (2 ^ s)) [] true none (by simp[lim];omega) (λx _=>by simp) (λx _ _=>by
   have i:∀{M:Mem},qe M .inn (N x) (NL K)=some (decide (x∈K)):=λ{M}=>qCh x K;by_cases q:x∈K
   ·rw[vE q]at i;simp[i,q,oT]
   ·rw[vD q]at i;simp[i,q,oT])
  rw[qk,show ((List.range (2 ^ s)).all λ_=>true)=true from wF.mpr λ_ _=>rfl,List.nil_append]at z;rw[z];show _=PR.ok ((T.lst ((c0 (2 ^ s) K).map oT),true),M);unfold c0;rw[wl];rfl
 have th:=Zv M.length (c0 (2 ^ s) K);obtain⟨p3,p5,C2,e⟩:=Y2 (P:=Pk (glT gs) Tb.fns Cs (k-1)) (M0:=M) (a0:=some (.tup [N s,NL A,NL K])) (a1:=some (CL L)) (a2:=some (NL (qH A))) (prs A L) (c0 (2 ^ s) K) none none (qBO h);rw[<-o9 hL]at e;have sr1:∀{M:Mem},D9 M (NL (qH A))=some ((qH A).map N,[]):=λ{M}=>rfl;have sr2:∀{M:Mem},D9 M (CL L)=some (L.map oT,[]):=λ{M}=>rfl;have nf:T.lf (CL L)=false:=by simp
 have ex:∃q,pxs (glT gs) (Pk (glT gs) Tb.fns Cs (k-1)) [4] b15 ([T.tup [N s,NL A,NL K],CL L].map some++List.replicate (6-2) none) M=q/\(match rn (prs A L) (c0 (2 ^ s) K) with
   |some C=>q=.ok (.rt (.cell M.length,false),M++[C.map oT])
   |none=>q=.exc 4 (M++[C2.map oT])):=by
  refine⟨_,rfl,?_⟩;cases hr:rn (prs A L) (c0 (2 ^ s) K) with
  |none=>
   rw[hr]at e;dsimp only at e ⊢;clear hr hL hs h;generalize CL (c0 (2 ^ s) K)=cl0 at *;generalize (c0 (2 ^ s) K).map oT=CO at *;generalize CL L=cl at *;generalize L.map oT=LO at *;generalize NL (qH A)=sp at *;generalize (qH A).map N=SP at *;generalize hM1:M++[CO]=M1 at *;generalize M++[C2.map oT]=M2 at *;rw[b15];simp[e12,e13,ln,e9,e4,rg,c,-qg,th,hM1,sr1,sr2,e,jk]
  |some C=>
   rw[hr]at e;dsimp only at e ⊢;clear hr hL hs h;generalize CL (c0 (2 ^ s) K)=cl0 at *;generalize (c0 (2 ^ s) K).map oT=CO at *;generalize CL L=cl at *;generalize L.map oT=LO at *;generalize NL (qH A)=sp at *;generalize (qH A).map N=SP at *;generalize hM1:M++[CO]=M1 at *;generalize M++[C.map oT]=M2 at *;rw[b15];simp[e12,e13,ln,e9,e4,rg,c,-qg,th,hM1,sr1,sr2,e,jS]
 obtain⟨q,e1,e2⟩:=ex;rw[e1];cases hr:rn (prs A L) (c0 (2 ^ s) K) with
 |none=>
  rw[hr]at e2;dsimp only at e2 ⊢;rw[e2,F7 hW]
 |some C=>
  rw[hr]at e2;dsimp only at e2 ⊢;rw[e2];exact zp rfl hW (by simp) (Nat.le_refl _) (E3 C) false
theorem spL{P:Nat->List T->Mem->PR (TB×Mem)}{M:Mem}{s:Nat}{ta tk:T}{A:List Nat}(ia:IsS M ta (A.map N))(hA:A.length<=32):∀(ms:List Nat) (W:List Nat) (o:Option T),W.length+ms.length*32<=900->∃o',qq [] (.name 2) (pxs (glT gs) P [] K9) (ms.map N) [some (.tup [N s,ta,tk]),some (NL W),o] M=.ok (.nx [some (.tup [N s,ta,tk]),some (NL (W++ms.flatMap (spo A))),o'],M)
 | [],W,o,_=>⟨o,by simp[qq]⟩
 |m::ms,W,o,hl=>by
  have ls:(spo A m).length<=32:=Nat.le_trans (wo _ _) (by simp;exact hA);simp at hl;obtain⟨o',e⟩:=spL (P:=P) ia hA (s:=s) (tk:=tk) ms (W++spo A m) (some (N m)) (by simp;omega);refine⟨o',?_⟩;have ln:=ia.isL.len;have rg:=zw (n:=A.length) (by omega);have c:=ZA (c:=pec (glT gs) P (.cons (.cmp .gt (.idx (.idx (.var 1) (nE 1)) (.var 0)) (.var 2)) .nil)) (e:=pe (glT gs) P (.var 0)) (M:=M) (σ:=[some (.tup [N s,ta,tk]),some (N m)]) (o:=none) (its:=List.range A.length) (λi=>decide (m<A.getD i 0)) (λi=>i) (by simp[lim];omega) (λx hx=>by
   have ix:=ia.isL.idx (getD_some (wY.mp hx));have nf:=ia.lf;simp[ix,-jx]) (λx _ _=>by simp)
  rw[List.map_id']at c;have c:qR [] (.name 0) (pec (glT gs) P (.cons (.cmp .gt (.idx (.idx (.var 1) (nE 1)) (.var 0)) (.var 2)) .nil)) (pe (glT gs) P (.var 0)) ((List.range A.length).map N) [] true [none,some (.tup [N s,ta,tk]),some (N m)] M=.ok ((NL (spo A m),true),M):=c;have ad:=qEl (M:=M) W (spo A m) (by omega);have nf:=ia.lf;have st:∀a b c z:Option T,[a,b,c].set 2 z=[a,b,z]:=λ_ _ _ _=>rfl;have body:pxs (glT gs) P [] K9 [some (.tup [N s,ta,tk]),some (NL W),some (N m)] M=.ok (.nx [some (.tup [N s,ta,tk]),some (NL (W++spo A m)),some (N m)],M):=by
   clear e;rw[K9];simp[ln,rg,c,-jH,ad]
  rw[List.map_cons,zI,st,body,PR.bind_ok,List.flatMap_cons,<-wM];exact e
theorem O3(hk:1<=k){M:Mem}{s:Nat}{ta tk:T}{A:List Nat}(ia:IsS M ta (A.map N))(hA:A.length<=32):Pk (glT gs) Tb.fns Cs k 20 [.tup [N s,ta,tk]] M=.ok ((NL (qH A),false),M):=by
 rw[qU t20 ⟨rfl,by decide⟩ (by omega),b20,show Cs.getD 20 []=[] from rfl];obtain⟨o',e⟩:=spL (P:=Pk (glT gs) Tb.fns Cs (k-1)) (s:=s) (tk:=tk) ia hA (List.range 6) [] none (by simp);have rg:=zw (n:=6) (by decide);rw[List.nil_append]at e;have e:qq [] (.name 2) (pxs (glT gs) (Pk (glT gs) Tb.fns Cs (k-1)) [] K9) ((List.range 6).map N) [some (.tup [N s,ta,tk]),some (.lst []),none] M=.ok (.nx [some (.tup [N s,ta,tk]),some (NL (qH A)),o'],M):=e;have nf:=jC (qH A);generalize (List.range 6).map N=its at *;generalize NL (qH A)=sp at *;simp[rg,e,lim,qJ,nf]
theorem l6{P:Nat->List T->Mem->PR (TB×Mem)}{M0:Mem}{a0:Option T}{t:T}{L:List (Option Nat)}{SP:List Nat}(ht:IsS M0 t (L.map oT))(hl:L.length=SP.length):∀(m i:Nat) (C:List (Option Nat)) (o4:Option T),i+m<=SP.length->(∀x∈SP,x<C.length)->∃(p4:Option T) (C2:List (Option Nat)),
  qq [] (.name 4) (pxs (glT gs) P [2] QN) ((List.range' i m).map N) [a0,some t,some (.cell M0.length),some (NL SP),o4] (M0++[C.map oT])=(match rn ((List.range' i m).map λj=>(SP.getD j 0,L.getD j none)) C with
   |some C'=>.ok (.nx [a0,some t,some (.cell M0.length),some (NL SP),p4],M0++[C'.map oT])
   |none=>.ok (.rt (.v .non,true),M0++[C2.map oT]))
 | 0,i,C,o4,_,_=>⟨o4,C,rfl⟩
 |m+1,i,C,o4,h,hC=>by
  have hi:i<SP.length:=by omega
  have hs:SP.getD i 0<C.length:=hC _ (by rw[wG,wA hi];exact wg hi);have ht1:=ht.app (C:=[C.map oT]);have iS:IsS (M0++[C.map oT]) (.cell M0.length) (C.map oT):=.inr ⟨_,rfl,by simp⟩;have ix1:Qe (M0++[C.map oT]) t (N i)=some (oT (L.getD i none),true):=by rw[ht1.idx,V3 (by omega),Option.map_some,X8]
  have ix3:∀{M:Mem},Qe M (NL SP) (N i)=some (N (SP.getD i 0),true):=λ{M}=>(IsL.nl M SP).idx (getD_some hi);rw[List.range'_succ,List.map_cons,List.map_cons,K3,zI,show ∀a b c d e z:Option T,[a,b,c,d,e].set 4 z=[a,b,c,d,z] from λ_ _ _ _ _ _=>rfl];generalize SP.getD i 0=s at *;have ix2:Qe (M0++[C.map oT]) (.cell M0.length) (N s)=some (oT (C.getD s none),true):=by rw[iS.idx,V3 hs,Option.map_some,X8]
  have nf:=ht.lf;cases hth:L.getD i none with
  |none=>
   rw[hth]at ix1;obtain⟨p4,C2,e⟩:=l6 (P:=P) (a0:=a0) ht hl m (i+1) C (some (N i)) (by omega) hC;refine⟨p4,C2,?_⟩;have i1:∀{M:Mem},qe M .isnot (oT none) (.v .non)=some false:=λ{M}=>zS none;have body:pxs (glT gs) P [2] QN [a0,some t,some (.cell M0.length),some (NL SP),some (N i)] (M0++[C.map oT])=.ok (.nx [a0,some t,some (.cell M0.length),some (NL SP),some (N i)],M0++[C.map oT]):=by
    clear e ht1 iS;generalize M0++[C.map oT]=M1 at *;rw[QN];simp[ix1,i1,-jx]
   rw[body,PR.bind_ok,y3];exact e
  |some v=>
   rw[hth]at ix1;have pt:n6 (M0++[C.map oT]) (.cell M0.length) (N s) (oT (some v))=some (M0++[(C.set s (some v)).map oT]):=by
    rw[L7 (xs:=C.map oT) (by simp) (by simpa using hs),wS _ _ (Nat.le_refl _),vA,List.map_set];rfl
   have i1:∀{M:Mem},qe M .isnot (oT (some v)) (.v .non)=some true:=λ{M}=>zS (some v);have lo:=X8 (some v);have go:∀{b:Bool},(∀{M:Mem},qe M .isnot (oT (C.getD s none)) (.v .non)=some b)->(b=true->∀{M:Mem},qe M .ne (oT (C.getD s none)) (oT (some v))=some false)->pxs (glT gs) P [2] QN [a0,some t,some (.cell M0.length),some (NL SP),some (N i)] (M0++[C.map oT])=.ok (.nx [a0,some t,some (.cell M0.length),some (NL SP),some (N i)],M0++[(C.set s (some v)).map oT]):=λ{b} g1 g2=>by
    clear ht1 iS;generalize (C.set s (some v)).map oT=CS at *;generalize M0++[CS]=M2 at *;generalize M0++[C.map oT]=M1 at *;generalize oT (some v)=tv at *;generalize oT (C.getD s none)=tc at *;cases b with
    |false=>
     rw[QN];simp[ix1,ix2,ix3,i1,g1,pt,-T3,lo,-jx]
    |true=>
     have g2:=λ{M}=>g2 rfl (M:=M);rw[QN];simp[ix1,ix2,ix3,i1,g1,g2,pt,-T3,lo,-jx]
   have again:∃(p4:Option T) (C2:List (Option Nat)),qq [] (.name 4) (pxs (glT gs) P [2] QN) ((List.range' (i+1) m).map N) [a0,some t,some (.cell M0.length),some (NL SP),some (N i)] (M0++[(C.set s (some v)).map oT])=_:=l6 (P:=P) (a0:=a0) ht hl m (i+1) (C.set s (some v)) (some (N i)) (by omega) (λx hx=>by simpa using hC x hx);cases hc:C.getD s none with
   |none=>
    rw[hc]at go;obtain⟨p4,C2,e⟩:=again;refine⟨p4,C2,?_⟩;rw[go (b:=false) (λ{M}=>zS none) (λz=>by cases z),PR.bind_ok,ZC hc];exact e
   |some u=>
    by_cases hv:v=u
    ·subst hv;rw[hc]at go;obtain⟨p4,C2,e⟩:=again;refine⟨p4,C2,?_⟩;rw[go (b:=true) (λ{M}=>zS (some v)) (λ_ {M}=>by rw[qCz,vE rfl];rfl),PR.bind_ok,Jo hc];have hset:C.set s (some v)=C:=by rw[<-hc,Jj]
     rw[hset]at e ⊢;exact e
    ·refine⟨none,C,?_⟩;rw[hc]at ix2;have i2:∀{M:Mem},qe M .isnot (oT (some u)) (.v .non)=some true:=λ{M}=>zS (some u);have i3:∀{M:Mem},qe M .ne (oT (some u)) (oT (some v))=some true:=λ{M}=>by rw[qCz,vD (λz=>hv (Option.some.inj z).symm)];rfl
     have body:pxs (glT gs) P [2] QN [a0,some t,some (.cell M0.length),some (NL SP),some (N i)] (M0++[C.map oT])=.ok (.rt (.v .non,true),M0++[C.map oT]):=by
      clear ht1 iS;generalize M0++[C.map oT]=M1 at *;generalize oT (some v)=tv at *;generalize oT (some u)=tu at *;rw[QN];simp[ix1,ix2,ix3,i1,i2,i3,lo,-jx]
     rw[body,PR.bind_ok,Zn hc hv];rfl
end
end My
namespace My
open PySem PySem.Spec PI
open L2 (V)
theorem Qj(q:Nat->Bool):∀(n lo:Nat),Ris lo (lo+n) ((List.range' lo n).filter q)
 | 0,lo=>trivial
 |n+1,lo=>by
  have ih:=Qj q n (lo+1);rw[List.range'_succ];have e:lo+1+n=lo+(n+1):=by omega
  rw[e]at ih;cases h:q lo with
  |true=>rw[List.filter_cons_of_pos h];exact⟨Nat.le_refl _,by omega,ih⟩
  |false=>
   rw[wj (by rw[h];decide)];have mono:∀(L:List Nat) (a b hi:Nat),a<=b->Ris b hi L->Ris a hi L:=λL a b hi hab h=>by
    cases L with
    |nil=>trivial
    |cons x L=>exact⟨Nat.le_trans hab h.1,h.2.1,h.2.2⟩
   exact mono _ _ _ _ (by omega) ih
theorem jr{β:Type}(g:β->T){gl:List T}{P:Nat->List T->Mem->PR (TB×Mem)}{e:TS->Mem->PR (TB×Mem)}{σ:TS}{I:Mem->Prop}{Rl:Nat->β->Prop}:∀(its:List Nat) (ys:List T) (b:Bool) (o:Option T) (M:Mem),ys.length+its.length<=lim->I M ->
  (∀x∈its,∀M,I M->∃y M',e (some (N x)::σ) M=.ok ((g y,true),M')/\I M'/\Rl x y) ->
  ∃(K:List β) (M':Mem),qR [] (.name 0) (pec gl P .nil) e (its.map N) ys b (o::σ) M=.ok ((.lst (ys++K.map g),b),M')/\I M'/\K.length=its.length/\∀(i x:Nat) (y:β),its[i]?=some x->K[i]?=some y->Rl x y
 | [],ys,b,o,M,_,hI,_=>⟨[],M,by simp[qR],hI,rfl,λi x y h=>by simp at h⟩
 |x::r,ys,b,o,M,hl,hI,he=>by
  obtain⟨y,M1,e1,i1,r1⟩:=he x (List.mem_cons_self ..) M hI;rw[List.map_cons];unfold qR;rw[show qt (.name 0) (N x) (o::σ)=some (some (N x)::σ) from rfl];dsimp only;rw[qg,PR.bind_ok];dsimp only;rw[if_pos rfl,e1,PR.bind_ok];dsimp only;rw[if_pos ⟨by simp at hl ⊢;omega,rfl⟩];obtain⟨K,M2,e2,i2,l2,r2⟩:=jr g (gl:=gl) (P:=P) (I:=I) (Rl:=Rl) r (ys++[g y]) b (some (N x)) M1 (by simp at hl ⊢;omega) i1 (λz hz=>he z (List.mem_cons_of_mem _ hz));refine⟨y::K,M2,?_,i2,by simp[l2],λi x' y' h1 h2=>?_⟩
  ·rw[Bool.and_true,e2];simp
  ·cases i with
   |zero=>cases h1;cases h2;exact r1
   |succ i=>exact r2 i x' y' h1 h2
theorem P1{d:jh}{c:TS->Mem->PR (Bool×Mem)}{e:TS->Mem->PR (TB×Mem)}{M:Mem}{σ:TS}(hd:qd d M=true):∀(its:List T) (ys:List T) (b:Bool) (o:Option T),
  (∀x∈its,c (some x::σ) M=.ok (false,M)) ->
  qR d (.name 0) c e its ys b (o::σ) M=.ok ((.lst ys,b),M)
 | [],ys,b,o,_=>by simp[qR]
 |x::r,ys,b,o,he=>by
  rw[qR,show qt (.name 0) x (o::σ)=some (some x::σ) from rfl];dsimp only;rw[he x (by simp),PR.bind_ok];dsimp only;rw[if_neg (by decide),if_pos hd];exact P1 hd r ys b (some x) λy hy=>he y (by simp[hy])
theorem qDZ(n:Nat)(x:V):thaw n (.v x)=(.v x,[]):=by simp[thaw]
noncomputable abbrev Ts(x:PySem.Str):T:=.v (.str x)
theorem Kept.refl{n:Nat}{M:Mem}(g:L0 M n):Kept n M M:=⟨g,rfl,λ_ _=>rfl⟩
noncomputable def a9:Option (List (Option Nat))->T
 |some C=>CL C
 |none=>.v .non
noncomputable def due(s:Nat)(A K:List Nat)(L:List (Option Nat)):Option (List (Option Nat)):=rn (prs A L) (c0 (2 ^ s) K)
section
variable{k:Nat}
theorem qDW(hk:2<=k){s:Nat}{A K:List Nat}(h:Pn s A K){L:List (Option Nat)}(hL:L.length=(qH A).length){M:Mem}(hW:WfM M){t:T}(ht:IsS M t (L.map oT)):∃f,Pk (glT gs) Tb.fns Cs k 21 [.tup [N s,NL A,NL K],t] M=.ok ((a9 (due s A K L),f),M):=by
 rw[qU t21 ⟨rfl,by decide⟩ (by omega),show Cs.getD 21 []=[2] from rfl];have n5:=p5 h.s5;have sl:=zT (A:=A) (by rw[h.len];exact n5);have ln:=(IsL.nl M A).len;rw[h.len]at ln;have rg:=zw (n:=2 ^ s) (by omega);have c:qR [] (.name 0) (pec (glT gs) (Pk (glT gs) Tb.fns Cs (k-1)) .nil) (pe (glT gs) (Pk (glT gs) Tb.fns Cs (k-1)) (.idx (.lst (.cons (.cst V.non) (.cons (nE 0) .nil))) (.blt .int (.cons (.cmp .inn (.var 0) (.idx (.var 1) (nE 2))) .nil)))) ((List.range (2 ^ s)).map N) [] true [none,some (.tup [N s,NL A,NL K])] M=.ok ((CL (c0 (2 ^ s) K),true),M):=by
  have z:=Qk (M:=M) (σ:=[some (.tup [N s,NL A,NL K])]) (c:=pec (glT gs) (Pk (glT gs) Tb.fns Cs (k-1)) .nil) (e:=pe (glT gs) (Pk (glT gs) Tb.fns Cs (k-1)) (.idx (.lst (.cons (.cst V.non) (.cons (nE 0) .nil))) (.blt .int (.cons (.cmp .inn (.var 0) (.idx (.var 1) (nE 2))) .nil)))) (λ_=>true) (λp=>oT (if p∈K then some 0 else none)) (λ_=>true) (List.range (2 ^ s)) [] true none (by simp[lim];omega) (λx _=>by simp) (λx _ _=>by
   have i:∀{M:Mem},qe M .inn (N x) (NL K)=some (decide (x∈K)):=λ{M}=>qCh x K;by_cases q:x∈K
   ·rw[vE q]at i;simp[i,q,oT,lim]
   ·rw[vD q]at i;simp[i,q,oT,lim])
  rw[qk,show ((List.range (2 ^ s)).all λ_=>true)=true from wF.mpr λ_ _=>rfl,List.nil_append]at z;rw[z];show _=PR.ok ((T.lst ((c0 (2 ^ s) K).map oT),true),M);unfold c0;rw[wl];rfl
 have th:=Zv M.length (c0 (2 ^ s) K);have e20:=O3 (k:=k-1) (by omega) (M:=M++[(c0 (2 ^ s) K).map oT]) (s:=s) (tk:=NL K) (A:=A) (ta:=NL A) (.inl rfl) (by rw[h.len];exact n5);have ln2:=λ{M:Mem}=>(IsL.nl M (qH A)).len;have rg2:=zw (n:=(qH A).length) (by omega);obtain⟨p4,C2,e⟩:=l6 (P:=Pk (glT gs) Tb.fns Cs (k-1)) (a0:=some (.tup [N s,NL A,NL K])) ht hL (qH A).length 0 (c0 (2 ^ s) K) none (by omega) (λx hx=>by rw[N7,<-h.len];exact Ze hx);rw[<-wx]at e;have e:qq [] (.name 4) (pxs (glT gs) (Pk (glT gs) Tb.fns Cs (k-1)) [2] QN) ((List.range (qH A).length).map N) [some (.tup [N s,NL A,NL K]),some t,some (.cell M.length),some (NL (qH A)),none] (M++[(c0 (2 ^ s) K).map oT])=(match due s A K L with
   |some C'=>.ok (.nx [some (.tup [N s,NL A,NL K]),some t,some (.cell M.length),some (NL (qH A)),p4],M++[C'.map oT])
   |none=>.ok (.rt (.v .non,true),M++[C2.map oT])):=e
 have nf:=ht.lf;have ex:∃q,pxs (glT gs) (Pk (glT gs) Tb.fns Cs (k-1)) [2] b21 ([T.tup [N s,NL A,NL K],t].map some++List.replicate (5-2) none) M=q/\(match due s A K L with
   |some C=>q=.ok (.rt (.cell M.length,false),M++[C.map oT])
   |none=>q=.ok (.rt (.v .non,true),M++[C2.map oT])):=by
  refine⟨_,rfl,?_⟩;cases hr:due s A K L with
  |none=>
   rw[hr]at e;dsimp only at e ⊢;clear hr hL h ht;generalize CL (c0 (2 ^ s) K)=cl0 at *;generalize (c0 (2 ^ s) K).map oT=CO at *;generalize (qH A).length=m at *;generalize NL (qH A)=sp at *;generalize hM1:M++[CO]=M1 at *;generalize M++[C2.map oT]=M2 at *;rw[b21];simp[ln,rg,c,-qg,th,hM1,e20,ln2,rg2,e]
  |some C=>
   rw[hr]at e;dsimp only at e ⊢;clear hr hL h ht;generalize CL (c0 (2 ^ s) K)=cl0 at *;generalize (c0 (2 ^ s) K).map oT=CO at *;generalize (qH A).length=m at *;generalize NL (qH A)=sp at *;generalize hM1:M++[CO]=M1 at *;generalize M++[C.map oT]=M2 at *;rw[b21];simp[ln,rg,c,-qg,th,hM1,e20,ln2,rg2,e,jS]
 obtain⟨q,e1,e2⟩:=ex;rw[e1];cases hr:due s A K L with
 |none=>
  rw[hr]at e2;dsimp only at e2 ⊢;rw[e2];exact S6 rfl hW rfl
 |some C=>
  rw[hr]at e2;dsimp only at e2 ⊢;rw[e2];exact⟨true,zp rfl hW (by simp) (Nat.le_refl _) (E3 C) false⟩
theorem r9(hk:10<=k){s:Nat}{A K:List Nat}(h:Pn s A K){L:List (Option Nat)}(hL:L.length=(qH A).length)(hs:Sg L){M:Mem}(hW:WfM M){C:List (Option Nat)}(hr:due s A K L=some C):Pk (glT gs) Tb.fns Cs k 22 [.tup [N s,NL A,NL K],CL L] M=.ok ((CL C,true),M):=by
 rw[qU t22 ⟨rfl,by decide⟩ (by omega),show Cs.getD 22 []=[2] from rfl];have e15:=qEB (k:=k-1) (by omega) h hL hs hW;rw[show rn (prs A L) (c0 (2 ^ s) K)=some C from hr]at e15;dsimp only at e15;have th:=Zv M.length C;have iS:IsS (M++[C.map oT]) (.cell M.length) (C.map oT):=.inr ⟨_,rfl,by simp⟩;have ty:=iS.ty;have q1:∀{M:Mem},qe M .eq (.lst []) (.lst [.v (.bl true),.v (.bl true),.v (.bl false)])=some false:=λ{M}=>rfl;have q2:∀{M:Mem},qe M .ne (.lst []) (.lst [])=some false:=λ{M}=>rfl;have nf:T.lf (CL L)=false:=by simp
 have ex:pxs (glT gs) (Pk (glT gs) Tb.fns Cs (k-1)) [2] b22 ([T.tup [N s,NL A,NL K],CL L].map some++List.replicate (5-2) none) M=.ok (.rt (.cell M.length,false),M++[C.map oT]):=by
  clear hr hL hs h iS;generalize CL C=cc at *;generalize CL L=cl at *;generalize C.map oT=CO at *;generalize hM1:M++[CO]=M1 at *;rw[b22];simp[qDZ,R6,e15,th,hM1,q1,q2,ze,ty,lim,jS]
 rw[ex];exact zp rfl hW (by simp) (Nat.le_refl _) (E3 C) false
theorem qAF(hk:10<=k){s:Nat}{A K:List Nat}(h:Pn s A K){L:List (Option Nat)}(hL:L.length=(qH A).length)(hs:Sg L){M:Mem}(hW:WfM M)(hr:due s A K L=none):Pk (glT gs) Tb.fns Cs k 22 [.tup [N s,NL A,NL K],CL L] M=.ok ((Ts "clash",true),M):=by
 rw[qU t22 ⟨rfl,by decide⟩ (by omega),show Cs.getD 22 []=[2] from rfl];have e15:=qEB (k:=k-1) (by omega) h hL hs hW;rw[show rn (prs A L) (c0 (2 ^ s) K)=none from hr]at e15;dsimp only at e15;have q1:∀{M:Mem},qe M .eq (.lst ([4,999,2].map λk=>T.v (.bl (QY 4 k)))) (.lst [.v (.bl true),.v (.bl true),.v (.bl false)])=some true:=λ{M}=>rfl;have nf:T.lf (CL L)=false:=by simp
 clear hr hL hs h;generalize CL L=cl at *;generalize hk4:T.lst ([4,999,2].map λk=>T.v (.bl (QY 4 k)))=kl at *;have nk:T.lf kl=false:=by rw[<-hk4];simp
 have st:pe (glT gs) (Pk (glT gs) Tb.fns Cs (k-1)) (.cst (V.str "clash")) [some (.tup [N s,NL A,NL K]),some cl,some (.v .non),some kl,none] M=.ok ((Ts "clash",true),M):=rfl;have e:=R6 (gl:=glT gs) (P:=Pk (glT gs) Tb.fns Cs (k-1)) (C:=[2]) (σ:=[some (.tup [N s,NL A,NL K]),some cl,some (.v .non),some (.lst []),none]) (M:=M) (.xasg 2 15 (.cons (.var 0) (.cons (.var 1) .nil))) 4 3 5 [4,999,2];rw[show px (glT gs) (Pk (glT gs) Tb.fns Cs (k-1)) [2] (.xasg 2 15 (.cons (.var 0) (.cons (.var 1) .nil))) [some (.tup [N s,NL A,NL K]),some cl,some (.v .non),some (.lst []),none] M=.exc 4 M by simp[e15,jk]]at e;dsimp only at e;rw[if_pos (by decide),hk4]at e;have e:px (glT gs) (Pk (glT gs) Tb.fns Cs (k-1)) [2] (.tryK (.xasg 2 15 (.cons (.var 0) (.cons (.var 1) .nil))) 4 3 5 [4,999,2]) [some (.tup [N s,NL A,NL K]),some cl,some (.v .non),some (.lst []),none] M=.ok (.nx [some (.tup [N s,NL A,NL K]),some cl,some (.v .non),some kl,none],M):=e;rw[b22];simp[qDZ,e,q1,lim,st,-pe_str,qJ]
theorem qFT(hk:7<=k){s:Nat}{A K:List Nat}(h:Pn s A K){M:Mem}(hW:WfM M){w:List Nat}(hw:w.length=2 ^ s/\∀v∈w,v<2):Pk (glT gs) Tb.fns Cs k 14 [.tup [N s,NL A,NL K],NL w] M=.ok ((NL ((qH A).map λi=>w.getD i 0),true),M):=by
 have n5:=p5 h.s5;rw[qU t14 ⟨rfl,by decide⟩ (by omega),b14,show Cs.getD 14 []=[] from rfl];have sl:=zT (A:=A) (by rw[h.len];exact n5);have e12:=qEQ (k:=k-1) (by omega) h (M:=M) (ta:=NL A) (tk:=NL K) (.inl rfl) (.inl rfl);have e4:=f4 (k:=k-1) (by omega) h.s5 M;have e8:=qFg (k:=k-1) (t:=NL w) (by omega) (.inl rfl) hw (by omega) (M:=M);have e13:=qBD (k:=k-1) (by omega) hW (s:=s) (tk:=NL K) (A:=A) (ta:=NL A) (.inl rfl) (by rw[h.len];omega);have z:=JQ (gl:=glT gs) (P:=Pk (glT gs) Tb.fns Cs (k-1)) (e:=pe (glT gs) (Pk (glT gs) Tb.fns Cs (k-1)) (.idx (.var 1) (.var 0))) (M:=M) (σ:=[some (NL w)]) (o:=none) (its:=qH A) (λi=>w.getD i 0) (by unfold lim;omega) λx hx=>by
  have:=(IsL.nl M w).idx (getD_some (show x<w.length by rw[hw.1,<-h.len];exact Ze hx));simp[this]
 have sN:ZR M (NL (qH A))=some ((qH A).map N,[]):=rfl;generalize NL ((qH A).map λi=>w.getD i 0)=tw at *;generalize NL (qH A)=ts at *;generalize (qH A).map N=sn at *;simp[e12,e4,e8,e13,sN,z,qJ,-qg]
theorem qAe(p i:Nat)(h:p&&& i=i):i<=p:=by rw[<-h];exact Nat.and_le_left
theorem qCi(hk:2<=k){M:Mem}{n:Nat}(g:L0 M n):∃s A K f M',Pk (glT gs) Tb.fns Cs k 19 [.cell n] M=.ok ((.tup [N s,NL A,NL K],f),M')/\Kept n M M'/\Pn s A K:=by
 rw[qU t19 ⟨rfl,by decide⟩ (by omega),b19,show Cs.getD 19 []=[] from rfl];obtain⟨d,M1,e1,hd,k1⟩:=out (k:=k-1) (by omega) g (m:=5) (by omega);obtain⟨w,M2,e2,hw,k2⟩:=out (k:=k-1) (by omega) k1.good (m:=3) (by omega);have pe5:2 ^ (1+d)<=32:=Nat.pow_le_pow_right (n:=2) (by decide) (show 1+d<=5 by omega);have pp:0<2 ^ (1+d):=Nat.two_pow_pos _;obtain⟨x,M3,e3,hx,k3⟩:=out (k:=k-1) (by omega) k2.good (m:=2 ^ (1+d)) (by omega);obtain⟨z,M4,e4,hz,k4⟩:=out (k:=k-1) (by omega) k3.good (m:=2) (by omega);have sh:∀{M:Mem},zJ M .shl (N 1) (N (1+d))=some (N (2 ^ (1+d)),true):=λ{M}=>by rw[i5 (by omega),Nat.one_mul]
 obtain⟨s,hs⟩:∃s,s=1+d:=⟨_,rfl⟩
 rw[<-hs]at sh pe5 pp hx e3;have rg:=zw (n:=2 ^ s) (by omega);have c:=ZA (c:=pec (glT gs) (Pk (glT gs) Tb.fns Cs (k-1)) (.cons (.or (.and (.cmp .eq (.var 2) (nE 1)) (.cmp .ge (.var 0) (.var 1))) (.and (.cmp .eq (.var 2) (nE 2)) (.cmp .eq (.bin .band (.var 0) (.var 1)) (.var 1)))) .nil)) (e:=pe (glT gs) (Pk (glT gs) Tb.fns Cs (k-1)) (.var 0)) (M:=M3) (σ:=[some (N x),some (N w)]) (o:=none) (its:=List.range (2 ^ s)) (λt=>(decide (w=1)&&decide (x<=t))||(decide (w=2)&&decide (t&&& x=x))) (λt=>t) (by simp[lim];omega) (λt _=>by
  by_cases h1:w=1
  ·by_cases h2:x<=t<;>simp[h1,h2]
  ·by_cases h2:w=2<;>simp[h1,h2,J2]) (λt _ _=>by simp)
 rw[List.map_id']at c;obtain⟨q,hq⟩:∃q:Nat->Bool,q=λt=>(decide (w=1)&&decide (x<=t))||(decide (w=2)&&decide (t&&& x=x)):=⟨_,rfl⟩
 rw[<-hq]at c;obtain⟨K,hK⟩:∃K,K=(List.range (2 ^ s)).filter q:=⟨_,rfl⟩
 rw[<-hK]at c;obtain⟨mo,hm,hm7⟩:∃mo,[N 2,N 7][z]?=some (N mo)/\(0<mo/\mo<=7):=by
  have:z=0\/z=1:=by omega
  rcases this with rfl|rfl
  ·exact⟨2,rfl,by decide⟩
  ·exact⟨7,rfl,by decide⟩
 obtain⟨A,M5,e5,k5,l5,r5⟩:=jr N (gl:=glT gs) (P:=Pk (glT gs) Tb.fns Cs (k-1)) (e:=pe (glT gs) (Pk (glT gs) Tb.fns Cs (k-1)) (.bin .mul (.call 17 (.cons (.var 1) (.cons (.var 3) .nil))) (.blt .int (.cons (.cmp .notin (.var 0) (.var 2)) .nil)))) (σ:=[some (.cell n),some (NL K),some (N mo)]) (I:=Kept n M4) (Rl:=λt y=>y<7/\(t∈K->y=0)) (List.range (2 ^ s)) [] true none M4 (by simp[lim];omega) (Kept.refl k4.good) (λt _ M' hI=>by
  obtain⟨y,M6,e6,hy,k6⟩:=out (k:=k-1) (by omega) hI.good (m:=mo) (by omega);have ml:∀{M:Mem}(v:Nat),zJ M .mul (N y) (N v)=some (N (y*v),true):=λ{M} v=>Zl (.inl (by omega));have ni:∀{M:Mem},qe M .notin (N t) (NL K)=some (!decide (t∈K)):=λ{M}=>Jd t K;by_cases ht:t∈K
  ·rw[vE ht]at ni;exact⟨y*0,M6,by simp[e6,ml,ni],hI.trans k6,by simp⟩
  ·rw[vD ht]at ni;exact⟨y*1,M6,by simp[e6,ml,ni],hI.trans k6,by omega,λz=>absurd z ht⟩)
 rw[List.nil_append]at e5;have e5:qR _ _ _ _ _ _ _ _ _=.ok ((NL A,true),M5):=e5;rw[List.length_range]at l5;have memK:∀t,t∈K↔t<2 ^ s/\q t=true:=λt=>by rw[hK,wm,wY]
 refine⟨s,A,K,false,M5,?_,(((k1.trans k2).trans k3).trans k4).trans k5,⟨by omega,by omega,l5,λy hy=>?_,?_,λi hi=>?_,λi hi p hp hpi=>?_⟩⟩
 ·clear r5 memK hq hK;have nK:=jC K;have nA:=jC A;have m0:M5.length=M.length:=((((k1.trans k2).trans k3).trans k4).trans k5).len;generalize NL K=tK at *;generalize NL A=tA at *;generalize (List.range (2 ^ s)).map N=its at *;have ad1:∀{M:Mem},zJ M .add (N 1) (N d)=some (N s,true):=λ{M}=>by rw[hs];exact qAt _ _
  simp[e1,ad1,sh,e2,e3,rg,c,-jH,-qg,e4,lim,hm,e5,nK,nA];rw[qJ m0]
 ·obtain⟨i,hi,rfl⟩:=wd.mp hy;exact(r5 i i _ (by rw[wf (by omega)]) (wA hi)).1
 ·rw[hK,wx];have:=Qj q (2 ^ s) 0
  rwa [Nat.zero_add]at this
 ·have hi2:=((memK i).mp hi).1;have:=(r5 i i A[i] (by rw[wf (by omega)]) (wA (by omega))).2 hi;rw[wA (show i<A.length by omega),this]
 ·refine(memK p).mpr ⟨hp,?_⟩;have h2:=((memK i).mp hi).2;rw[hq]at h2 ⊢;simp only[wq,Bool.and_eq_true,vF]at h2 ⊢;rcases h2 with⟨a,b⟩|⟨a,b⟩
  ·exact .inl ⟨a,Nat.le_trans b (qAe p i hpi)⟩
  ·refine .inr ⟨a,?_⟩;rw[<-b,<-Nat.and_assoc,hpi]
end
end My
namespace My
open PySem PySem.Spec PI
open L2 (V)
theorem JO{M:Mem}(h:WfM M){C:Mem}(hC:∀c∈C,T.lfs c=true):WfM (M++C):=h.app λc hc=>Qt _ _ (hC c hc)
theorem T0{M:Mem}{d:Nat}{a b c x y z:T}(h1:eqT M d a x=some true)(h2:eqT M d b y=some true)(h3:eqT M d c z=some true):eqT M (d+1) (.tup [a,b,c]) (.tup [x,y,z])=some true:=by
 unfold eqT;dsimp only[T.isV,T.lis,T.its];rw[if_pos (by rfl)];unfold qi qi qi qi;rw[h1,h2,h3];rfl
theorem V2{M:Mem}{d:Nat}{a b c x y z:T}(h1:eqT M d a x=some true)(h2:eqT M d b y=some true)(h3:eqT M d c z=some true):eqT M (d+1) (.lst [a,b,c]) (.lst [x,y,z])=some true:=by
 have h:IsS M (.lst [a,b,c]) [a,b,c]:=.inl rfl;have k:IsS M (.lst [x,y,z]) [x,y,z]:=.inl rfl;rw[h.eqT k rfl (bs:=[true,true,true]) (by unfold qi qi qi qi;simp[h1,h2,h3])];rfl
theorem N5{M:Mem}{s:Nat}{A K W:List Nat}{L:List (Option Nat)}{t:T}(ht:IsS M t (L.map oT)):qe M .ne (.lst [.tup [N s,NL A,NL K],NL W,CL L]) (.lst [.tup [N s,NL A,NL K],NL W,t])=some false:=by
 have g0:eqT M 2 (N s) (N s)=some true:=(qAL (some s) (some s)).trans (by rw[vE rfl]);have g1:∀A:List Nat,eqT M 2 (NL A) (NL A)=some true:=λA=>by rw[P4,vE rfl]
 have h2:eqT M 3 (NL W) (NL W)=some true:=by rw[P4,vE rfl]
 have h3:eqT M 3 (CL L) t=some true:=qBY (.inl rfl) ht;show (eqT M 4 _ _).map _=_;rw[V2 (T0 g0 (g1 A) (g1 K)) h2 h3];rfl
section
variable{k:Nat}
theorem Qv(hk:1<=k)(x:Nat)(M:Mem):Pk (glT gs) Tb.fns Cs k 18 [N x] M=.ok (bT true,M):=qEn hk x M
theorem qCp(hk:12<=k){s:Nat}{A K:List Nat}(h:Pn s A K){W:List Nat}(hw:W.length=2 ^ s/\∀v∈W,v<2){L:List (Option Nat)}(hL:L.length=(qH A).length)(hs:Sg L){M:Mem}(hW:WfM M){t:T}(ht:IsS M t (L.map oT)){o5 o6 o7 o8:Option T}:∃p6 p7 p8 C,pxs (glT gs) (Pk (glT gs) Tb.fns Cs k) [6,7] Q6 [some (.tup [N s,NL A,NL K]),some (NL W),some t,some (.lst [.tup [N s,NL A,NL K],NL W,CL L]),some (a9 (due s A K L)),o5,o6,o7,o8] M=.ok (.nx [some (.tup [N s,NL A,NL K]),some (NL W),some t,some (.lst [.tup [N s,NL A,NL K],NL W,CL L]),some (a9 (due s A K L)),o5,p6,p7,p8],M++C)/\WfM (M++C):=by
 have n5:=p5 h.s5;have sl:=zT (A:=A) (by rw[h.len];exact n5);have e14:=qFT (k:=k) (by omega) h hW hw;obtain⟨SW,hSW⟩:∃SW,SW=(qH A).map λi=>W.getD i 0:=⟨_,rfl⟩
 rw[<-hSW]at e14;have lSW:SW.length<=192:=by rw[hSW,wL];exact sl
 have th6:=y6 M.length SW;have W1:WfM (M++[SW.map N]):=JO hW λc hc=>by rw[List.mem_singleton.mp hc];exact Zm _
 have iL:IsL (M++[SW.map N]) (.cell M.length) SW:=IsL.cell (by simp);have ty6:=iL.ty;have e20:=O3 (k:=k) (by omega) (M:=M++[SW.map N]) (s:=s) (tk:=NL K) (A:=A) (ta:=NL A) (.inl rfl) (by rw[h.len];exact n5);have sN:ZR (M++[SW.map N]) (NL (qH A))=some ((qH A).map N,[]):=rfl;have c:=JQ (gl:=glT gs) (P:=Pk (glT gs) Tb.fns Cs k) (e:=pe (glT gs) (Pk (glT gs) Tb.fns Cs k) (.idx (.var 1) (.var 0))) (M:=M++[SW.map N]) (σ:=[some (NL W)]) (o:=none) (its:=qH A) (λi=>W.getD i 0) (by unfold lim;omega) λx hx=>by
  have:=(IsL.nl (M++[SW.map N]) W).idx (getD_some (show x<W.length by rw[hw.1,<-h.len];exact Ze hx));generalize M++[SW.map N]=Q at *;simp[this]
 rw[<-hSW]at c;have ne6:qe (M++[SW.map N]) .ne (.cell M.length) (NL SW)=some false:=by rw[iL.cne (IsL.nl _ SW),vE rfl];rfl
 have nft:=ht.lf;cases hr:due s A K L with
 |none=>
  have e22:=qAF (k:=k) (by omega) h hL hs W1 hr;have nh:=N5 (s:=s) (A:=A) (K:=K) (W:=W) (ht.app (C:=[SW.map N]));have q1:∀{M:Mem},qe M .eq (Ts "clash") (Ts "clash")=some true:=λ{M}=>rfl;have q2:∀{M:Mem},qe M .is (.v .non) (.v .non)=some true:=λ{M}=>rfl;have q3:∀{M:Mem},qe M .isnot (.v .non) (.v .non)=some false:=λ{M}=>rfl;have st:∀{M:Mem}{σ:TS},pe (glT gs) (Pk (glT gs) Tb.fns Cs k) (.cst (V.str "clash")) σ M=.ok ((Ts "clash",true),M):=λ{M σ}=>rfl;have ap:qAl (M++[SW.map N]) M.length (N 7)=some (M++[(SW++[7]).map N]):=by
   rw[qBB (xs:=SW.map N) (by simp) (by simp[lim];omega),wS _ _ (by omega)];simp
  refine⟨some (.cell M.length),some (Ts "clash"),o8,[(SW++[7]).map N],?_,JO hW λc hc=>by rw[List.mem_singleton.mp hc];exact Zm _⟩;clear iL W1 hSW ht hL hs h hw hr;unfold a9;dsimp only;generalize (SW++[7]).map N=S7 at *;generalize M++[S7]=M3 at *;generalize SW.map N=SN at *;generalize hM1:M++[SN]=M1 at *;generalize NL SW=tsw at *;generalize NL (qH A)=tsp at *;generalize (qH A).map N=SP at *;have nfh:∀{p w l:T},T.lf (.lst [p,w,l])=false:=λ{p w l}=>by simp
  have nfp:T.lf (.tup [N s,NL A,NL K])=false:=by simp[jC]
  have nfW:=jC W;have nfC:T.lf (CL L)=false:=by simp
  have tyt:∀{M:Mem}(xs:List T),zd M (.lst xs)=some "list":=λ{M} xs=>rfl;generalize CL L=cl at *;generalize NL W=tw at *;generalize T.tup [N s,NL A,NL K]=pl at *;rw[Q6];simp[qBm,e14,th6,hM1,ty6,ze,e20,sN,c,-qg,ne6,e22,qDZ,lim,nh,q1,q2,q3,st,-pe_str,ap,jS]
 |some C=>
  have e22:=r9 (k:=k) (by omega) h hL hs W1 hr;have hC:Sg C:=qAq hr (qDX _ _) λx hx v hv=>by
   obtain⟨i,hi,rfl⟩:=we.mp hx;refine hs (L.getD i none) ?_ v hv;rw[wG,wA (by have:=wY.mp hi;omega)];exact wg _
  have lC:C.length=2 ^ s:=by rw[k9 hr,N7]
  have th7:=Zv (M++[SW.map N]).length C;have iC:IsS (M++[SW.map N]++[C.map oT]) (.cell (M++[SW.map N]).length) (C.map oT):=.inr ⟨_,rfl,by simp⟩;have nh:=N5 (s:=s) (A:=A) (K:=K) (W:=W) ((ht.app (C:=[SW.map N])).app (C:=[C.map oT]));have q1:qe (M++[SW.map N]++[C.map oT]) .eq (.cell (M++[SW.map N]).length) (Ts "clash")=some false:=by
   show (if (T.its (M++[SW.map N]++[C.map oT]) (.cell (M++[SW.map N]).length)).isSome then some false else none)=_;rw[iC.its];rfl
  have q2:∀{M:Mem},qe M .is (CL C) (.v .non)=some false:=λ{M}=>rfl;have q3:∀{M:Mem},qe M .isnot (CL C) (.v .non)=some true:=λ{M}=>rfl;have q4:qe (M++[SW.map N]++[C.map oT]) .ne (.cell (M++[SW.map N]).length) (CL C)=some false:=by
   show (eqT _ 4 _ _).map _=_;rw[qBY (d:=3) iC (.inl rfl)];rfl
  have q5:∀{M:Mem},qe M .ne (.lst []) (.lst [])=some false:=λ{M}=>rfl;obtain⟨d,s1,_,s2⟩:=iC.src;have s2:=s2 [];rw[List.append_nil]at s2;have c8:=P1 (c:=pec (glT gs) (Pk (glT gs) Tb.fns Cs k) (.cons (.and (.cmp .isnot (.var 0) (.cst V.non)) (.not (.call 18 (.cons (.var 0) .nil)))) .nil)) (e:=pe (glT gs) (Pk (glT gs) Tb.fns Cs k) (.var 0)) (σ:=[]) s2 (C.map oT) [] true none (λx hx=>by
   obtain⟨o,ho,rfl⟩:=we.mp hx;generalize M++[SW.map N]++[C.map oT]=Q at *;have lo:=X8 o;cases o with
   |none=>
    have i:qe Q .isnot (oT none) (.v .non)=some false:=zS none;simp[i,lo]
   |some v=>
    have i:qe Q .isnot (N v) (.v .non)=some true:=zS (some v);have e18:=Qv (k:=k) (by omega) v Q;show pec _ _ _ [some (N v)] Q=_;simp[i,e18])
  have st:∀{M:Mem}{σ:TS},pe (glT gs) (Pk (glT gs) Tb.fns Cs k) (.cst (V.str "clash")) σ M=.ok ((Ts "clash",true),M):=λ{M σ}=>rfl;have cr:JC .clr (M++[SW.map N]).length [] (M++[SW.map N]++[C.map oT])=some ((.v .non,true),M++[SW.map N]++[[]]):=by
   show ((M++[SW.map N]++[C.map oT])[(M++[SW.map N]).length]?).map _=_;rw[show (M++[SW.map N]++[C.map oT])[(M++[SW.map N]).length]?=some (C.map oT) by simp,Option.map_some,wS _ _ (Nat.le_refl _),vA];rfl
  have ap:qAl (M++[SW.map N]++[[]]) M.length (N 7)=some (M++[(SW++[7]).map N,[]]):=by
   rw[qBB (xs:=SW.map N) (by simp) (by simp[lim];omega),wM,wS _ _ (by omega)];simp
  refine⟨some (.cell M.length),some (.cell (M++[SW.map N]).length),some (.lst []),[(SW++[7]).map N,[]],?_,JO hW λc hc=>by
   simp only[List.mem_cons,wO,or_false]at hc;rcases hc with rfl|rfl
   ·exact Zm _
   ·rfl⟩
  clear iL W1 hSW ht hL hs h hw hr iC s2 hC lC;unfold a9;dsimp only;generalize M++[(SW++[7]).map N,[]]=M3 at *;generalize SW.map N=SN at *;generalize hM1:M++[SN]=M1 at *;generalize hM4:M1++[[]]=M4 at *;generalize hM2:M1++[C.map oT]=M2 at *;generalize hCO:C.map oT=CO at *;generalize NL SW=tsw at *;generalize NL (qH A)=tsp at *;generalize (qH A).map N=SP at *;have nfp:T.lf (.tup [N s,NL A,NL K])=false:=by simp[jC]
  have nfW:=jC W;have nfC:T.lf (CL L)=false:=by simp
  generalize CL L=cl at *;generalize NL W=tw at *;generalize T.tup [N s,NL A,NL K]=pl at *;have nfd:T.lf (T.lst CO)=false:=by simp
  generalize T.lst CO=cc at *;rw[Q6];simp[qBm,e14,th6,hM1,ty6,ze,e20,sN,c,-qg,-jH,ne6,e22,th7,hM2,lim,nh,q1,q2,q3,q4,q5,s1,c8,st,-pe_str,cr,hM4,ap,jS]
theorem qBb(hk:12<=k){s:Nat}{A K:List Nat}(h:Pn s A K){W:List Nat}(hw:W.length=2 ^ s/\∀v∈W,v<2){L:List (Option Nat)}(hL:L.length=(qH A).length)(hs:Sg L){t:T}:∀(its:List T){M:Mem}(_:WfM M) (_:IsS M t (L.map oT)) (o5 o6 o7 o8:Option T),∃p5 p6 p7 p8 C,qq [] (.name 5) (pxs (glT gs) (Pk (glT gs) Tb.fns Cs k) [6,7] Q6) its [some (.tup [N s,NL A,NL K]),some (NL W),some t,some (.lst [.tup [N s,NL A,NL K],NL W,CL L]),some (a9 (due s A K L)),o5,o6,o7,o8] M=.ok (.nx [some (.tup [N s,NL A,NL K]),some (NL W),some t,some (.lst [.tup [N s,NL A,NL K],NL W,CL L]),some (a9 (due s A K L)),p5,p6,p7,p8],M++C)
 | [],M,_,_,o5,o6,o7,o8=>⟨o5,o6,o7,o8,[],by rw[List.append_nil];rfl⟩
 |x::its,M,hW,ht,o5,o6,o7,o8=>by
  obtain⟨p6,p7,p8,C,e,W1⟩:=qCp hk h hw hL hs hW ht (o5:=some x) (o6:=o6) (o7:=o7) (o8:=o8);obtain⟨q5,q6,q7,q8,C',e'⟩:=qBb hk h hw hL hs its W1 ht.app (some x) p6 p7 p8;refine⟨q5,q6,q7,q8,C++C',?_⟩;rw[zI,show ∀a b c d e f g h i z:Option T,[a,b,c,d,e,f,g,h,i].set 5 z=[a,b,c,d,e,z,g,h,i] from λ_ _ _ _ _ _ _ _ _ _=>rfl,e,PR.bind_ok,<-wM];exact e'
theorem qA4(hk:13<=k){s:Nat}{A K:List Nat}(h:Pn s A K){W:List Nat}(hw:W.length=2 ^ s/\∀v∈W,v<2){L:List (Option Nat)}(hL:L.length=(qH A).length)(hs:Sg L){M:Mem}(hW:WfM M){t:T}(ht:IsS M t (L.map oT)):Pk (glT gs) Tb.fns Cs k 23 [.tup [N s,NL A,NL K],NL W,t] M=.ok (bT true,M):=by
 rw[qU t23 ⟨rfl,by decide⟩ (by omega),show Cs.getD 23 []=[6,7] from rfl];obtain⟨f,e21⟩:=qDW (k:=k-1) (by omega) h hL hW ht;obtain⟨p5,p6,p7,p8,C,e⟩:=qBb (k:=k-1) (by omega) h hw hL hs [N 0,N 1] hW ht none none none none;have rg:qCX (N 2)=some [N 0,N 1]:=rfl;have lA:∀{M:Mem},zr M .list [NL A]=some (NL A,true):=λ{M}=>R9 A;have lK:∀{M:Mem},zr M .list [NL K]=some (NL K,true):=λ{M}=>R9 K;have lW:∀{M:Mem},zr M .list [NL W]=some (NL W,true):=λ{M}=>R9 W;have lt:zr M .list [t]=some (CL L,true):=by rw[ht.list];unfold lT;rw[E3]
 have nft:=ht.lf;have nfW:=jC W;have nfA:=jC A;have nfK:=jC K;have nfC:T.lf (CL L)=false:=by simp
 have ex:pxs (glT gs) (Pk (glT gs) Tb.fns Cs (k-1)) [6,7] b23 ([T.tup [N s,NL A,NL K],NL W,t].map some++List.replicate (9-3) none) M=.ok (.rt (bT true),M++C):=by
  clear ht hL hs h hw;generalize (a9 (due s A K L))=dt at *;generalize CL L=cl at *;generalize NL W=tw at *;generalize NL A=ta at *;generalize NL K=tk at *;generalize M++C=M2 at *;rw[b23];simp[lA,lK,lW,lt,lim,e21,rg,e,bT,-zI]
 rw[ex];exact u3 rfl hW
end
end My
namespace My
open PySem PySem.Spec PI
open L2 (V)
noncomputable def g_0:S:=(.asg (.name 2) (.call 16 (.cons (.var 0) (.cons (.var 1) .nil))))
noncomputable def g_1:S:=(.asg (.name 3) (.call 19 (.cons (.var 2) .nil)))
noncomputable def g_2:S:=(.ifs (.cmp .eq (.call 17 (.cons (.var 2) (.cons (nE 8) .nil))) (nE 0)) (.cons (.asg (.name 3) (.tup (.cons (.idx (.var 3) (nE 0)) (.cons (.comp (.list (.idx (.var 3) (nE 1))) [none] (.name 0) .nil (nE 0)) (.cons (.idx (.var 3) (nE 2)) .nil))))) .nil) .nil)
noncomputable def g_3:S:=(.asg (.name 4) (.comp (.rng1 (.bin .shl (nE 1) (.idx (.var 3) (nE 0)))) [none,some 2,some 3] (.name 0) .nil (.bin .mul (.call 17 (.cons (.var 1) (.cons (nE 2) .nil))) (.blt .int (.cons (.cmp .notin (.var 0) (.idx (.var 2) (nE 2))) .nil)))))
noncomputable def g_4:S:=(.asg (.name 5) (.bin .add (nE 1) (.call 17 (.cons (.var 2) (.cons (nE 4) .nil)))))
noncomputable def g_5:S:=(.asg (.name 6) (.comp (.list (.call 20 (.cons (.var 3) .nil))) [none,some 2,some 5,some 4] (.name 0) .nil (.idx (.lst (.cons (.idx (.var 3) (.var 0)) (.cons (.cst V.non) .nil))) (.blt .int (.cons (.cmp .eq (.call 17 (.cons (.var 1) (.cons (.var 2) .nil))) (nE 0)) .nil)))))
noncomputable def g_6:S:=(.ifs (.and (.cmp .ne (.var 6) (.lst .nil)) (.cmp .eq (.call 17 (.cons (.var 2) (.cons (nE 4) .nil))) (nE 3))) (.cons (.asg (.name 7) (.call 17 (.cons (.var 2) (.cons (.blt .len (.cons (.var 6) .nil)) .nil)))) (.cons (.ifs (.cmp .isnot (.idx (.var 6) (.var 7)) (.cst V.non)) (.cons (.put (.var 6) (.var 7) (.bin .sub (nE 1) (.idx (.var 6) (.var 7)))) .nil) .nil) .nil)) .nil)
noncomputable def g_7:S:=(.ifs (.not (.call 23 (.cons (.var 3) (.cons (.var 4) (.cons (.var 6) .nil))))) (.cons (.ret (.cst (V.bl false))) .nil) .nil)
theorem qEg:T7=(.cons g_0 (.cons g_1 (.cons g_2 (.cons g_3 (.cons g_4 (.cons g_5 (.cons g_6 (.cons g_7 .nil)))))))):=rfl
theorem ja{gl:List T}{P:Nat->List T->Mem->PR (TB×Mem)}{C:List Nat}{s:S}{r:Ss}{σ σ':TS}{M M':Mem}(e:px gl P C s σ M=.ok (.nx σ',M')):pxs gl P C (.cons s r) σ M=pxs gl P C r σ' M':=by
 rw[B9,e];rfl
theorem neE{M:Mem}{t:T}{L:List (Option Nat)}(h:IsS M t (L.map oT)):qe M .ne t (.lst [])=some (!decide (L=[])):=by
 have k:IsS M (.lst []) []:=.inl rfl;show (eqT M 4 t (.lst [])).map _=_;cases L with
 |nil=>rw[h.eqT k rfl (bs:=[]) rfl];rfl
 |cons x r=>
  have e:eqT M 4 t (.lst [])=some false:=by
   unfold eqT;rw[h.nv,h.lis];show (if (((x::r).map oT).length=([]:List T).length) then _ else _)=_;rw[if_neg (by simp)]
  rw[e];rfl
theorem l8{s:Nat}{A K:List Nat}(h:Pn s A K):Pn s (A.map λ_=>0) K:=⟨h.s1,h.s5,by rw[wL,h.len],λx hx=>by
 obtain⟨_,_,rfl⟩:=we.mp hx;decide,h.ris,λi hi=>by
 obtain⟨hl,_⟩:=List.getElem?_eq_some_iff.mp (h.zero i hi);rw[wK,wA hl];rfl,h.up⟩
theorem qEm{L:List (Option Nat)}(h:∀(i:Nat) (o:Option Nat),L[i]?=some o->∀v,o=some v->v<2):Sg L:=λo ho v hv=>by
 obtain⟨i,hi,rfl⟩:=wd.mp ho;exact h i _ (wA hi) v hv
section
variable{k:Nat}
theorem s2(hk:1<=k){M:Mem}{n:Nat}(g:L0 M n){s:Nat}{A K:List Nat}(h:Pn s A K){a0 a1 o4 o5 o6 o7:Option T}:∃A' M',px (glT gs) (Pk (glT gs) Tb.fns Cs k) [2,6] g_2 [a0,a1,some (.cell n),some (.tup [N s,NL A,NL K]),o4,o5,o6,o7] M=.ok (.nx [a0,a1,some (.cell n),some (.tup [N s,NL A',NL K]),o4,o5,o6,o7],M')/\Kept n M M'/\Pn s A' K:=by
 obtain⟨z,M1,e1,_,k1⟩:=out (k:=k) hk g (m:=8) (by decide);have sN:ZR M1 (NL A)=some (A.map N,[]):=rfl;have c:=JQ (gl:=glT gs) (P:=Pk (glT gs) Tb.fns Cs k) (e:=pe (glT gs) (Pk (glT gs) Tb.fns Cs k) (nE 0)) (M:=M1) (σ:=[]) (o:=none) (its:=A) (λ_=>0) (by have:=p5 h.s5;rw[h.len];unfold lim;omega) λx hx=>by simp
 have nfp:T.lf (.tup [N s,NL A,NL K])=false:=by simp[jC]
 by_cases hz:z=0
 ·subst hz;refine⟨A.map λ_=>0,M1,?_,k1,l8 h⟩;have nA:=jC A;have nK:=jC K;have nB:=jC (A.map λ_=>0);clear h;generalize NL (A.map λ_=>0)=tb at *;generalize NL A=ta at *;generalize NL K=tk at *;rw[g_2];simp[e1,sN,c,-qg,lim]
 ·refine⟨A,M1,?_,k1,h⟩;clear h;generalize T.tup [N s,NL A,NL K]=pl at *;rw[g_2];simp[e1,hz]
theorem s3(hk:1<=k){M:Mem}{n:Nat}(g:L0 M n){s:Nat}{A K:List Nat}(h:Pn s A K){a0 a1 o4 o5 o6 o7:Option T}:∃W M',px (glT gs) (Pk (glT gs) Tb.fns Cs k) [2,6] g_3 [a0,a1,some (.cell n),some (.tup [N s,NL A,NL K]),o4,o5,o6,o7] M=.ok (.nx [a0,a1,some (.cell n),some (.tup [N s,NL A,NL K]),some (NL W),o5,o6,o7],M')/\Kept n M M'/\W.length=2 ^ s/\∀v∈W,v<2:=by
 have n5:=p5 h.s5;have sh:∀{M:Mem},zJ M .shl (N 1) (N s)=some (N (2 ^ s),true):=λ{M}=>by rw[i5 (by have:=h.s5;omega),Nat.one_mul]
 have rg:=zw (n:=2 ^ s) (by omega);obtain⟨W,M5,e5,k5,l5,r5⟩:=jr N (gl:=glT gs) (P:=Pk (glT gs) Tb.fns Cs k) (e:=pe (glT gs) (Pk (glT gs) Tb.fns Cs k) (.bin .mul (.call 17 (.cons (.var 1) (.cons (nE 2) .nil))) (.blt .int (.cons (.cmp .notin (.var 0) (.idx (.var 2) (nE 2))) .nil)))) (σ:=[some (.cell n),some (.tup [N s,NL A,NL K])]) (I:=Kept n M) (Rl:=λt y=>y<2) (List.range (2 ^ s)) [] true none M (by simp[lim];omega) (Kept.refl g) (λt _ M' hI=>by
  obtain⟨y,M6,e6,hy,k6⟩:=out (k:=k) hk hI.good (m:=2) (by omega);have ml:∀{M:Mem}(v:Nat),zJ M .mul (N y) (N v)=some (N (y*v),true):=λ{M} v=>Zl (.inl (by omega));have ni:∀{M:Mem},qe M .notin (N t) (NL K)=some (!decide (t∈K)):=λ{M}=>Jd t K;generalize NL K=tk at *;by_cases ht:t∈K
  ·rw[vE ht]at ni;exact⟨y*0,M6,by simp[e6,ml,ni],hI.trans k6,by omega⟩
  ·rw[vD ht]at ni;exact⟨y*1,M6,by simp[e6,ml,ni],hI.trans k6,by omega⟩)
 rw[List.nil_append]at e5;have e5:qR _ _ _ _ _ _ _ _ _=.ok ((NL W,true),M5):=e5;rw[List.length_range]at l5;refine⟨W,M5,?_,k5,l5,λv hv=>?_⟩
 ·clear r5 h;generalize NL W=tw at *;generalize NL K=tk at *;generalize NL A=ta at *;generalize (List.range (2 ^ s)).map N=its at *;rw[g_3];simp[sh,rg,e5]
 ·obtain⟨i,hi,rfl⟩:=wd.mp hv;exact r5 i i _ (by rw[wf (by omega)]) (wA hi)
theorem s5(hk:2<=k){M:Mem}{n q:Nat}(g:L0 M n)(hq:0<q/\q<=4){s:Nat}{A K:List Nat}(h:Pn s A K){W:List Nat}(hw:W.length=2 ^ s/\∀v∈W,v<2){a0 a1 o6 o7:Option T}:∃L M',px (glT gs) (Pk (glT gs) Tb.fns Cs k) [2,6] g_5 [a0,a1,some (.cell n),some (.tup [N s,NL A,NL K]),some (NL W),some (N q),o6,o7] M=.ok (.nx [a0,a1,some (.cell n),some (.tup [N s,NL A,NL K]),some (NL W),some (N q),some (.cell M'.length),o7],M'++[L.map oT])/\Kept n M M'/\L.length=(qH A).length/\Sg L:=by
 have n5:=p5 h.s5;have sl:=zT (A:=A) (by rw[h.len];exact n5);have e20:=O3 (k:=k) (by omega) (M:=M) (s:=s) (tk:=NL K) (A:=A) (ta:=NL A) (.inl rfl) (by rw[h.len];exact n5);have sN:ZR M (NL (qH A))=some ((qH A).map N,[]):=rfl;obtain⟨L,M5,e5,k5,l5,r5⟩:=jr oT (gl:=glT gs) (P:=Pk (glT gs) Tb.fns Cs k) (e:=pe (glT gs) (Pk (glT gs) Tb.fns Cs k) (.idx (.lst (.cons (.idx (.var 3) (.var 0)) (.cons (.cst V.non) .nil))) (.blt .int (.cons (.cmp .eq (.call 17 (.cons (.var 1) (.cons (.var 2) .nil))) (nE 0)) .nil)))) (σ:=[some (.cell n),some (N q),some (NL W)]) (I:=Kept n M) (Rl:=λt o=>∀v,o=some v->v<2) (qH A) [] true none M (by simp[lim];omega) (Kept.refl g) (λt ht M' hI=>by
  obtain⟨y,M6,e6,hy,k6⟩:=out (k:=k) (by omega) hI.good (m:=q) (by omega);have hl:t<W.length:=by rw[hw.1,<-h.len];exact Ze ht
  have ix:∀{M:Mem},Qe M (NL W) (N t)=some (N (W.getD t 0),true):=λ{M}=>(IsL.nl M W).idx (getD_some hl);have h2:W.getD t 0<2:=hw.2 _ (by rw[wG,wA hl];exact wg hl);generalize W.getD t 0=x at *;generalize NL W=tw at *;by_cases hz:y=0
  ·exact⟨none,M6,by simp[ix,e6,hz,lim,oT],hI.trans k6,λv z=>by cases z⟩
  ·exact⟨some x,M6,by simp[ix,e6,hz,lim,oT],hI.trans k6,λv z=>by cases z;exact h2⟩)
 rw[List.nil_append]at e5;obtain⟨cl,hcl⟩:∃cl,cl=CL L:=⟨_,rfl⟩
 rw[show T.lst (L.map oT)=cl from hcl.symm]at e5;have th:thaw M5.length cl=(.cell M5.length,[L.map oT]):=by rw[hcl];exact Zv M5.length L
 refine⟨L,M5,?_,k5,l5,qEm λi o ho=>r5 i ((qH A).getD i 0) o ?_ ho⟩
 ·clear r5 h hw hcl;generalize L.map oT=LO at *;generalize NL W=tw at *;generalize NL (qH A)=tsp at *;generalize (qH A).map N=SP at *;generalize T.tup [N s,NL A,NL K]=pl at *;rw[g_5];simp[e20,sN,e5,-qg,th]
 ·exact getD_some (by have:=(List.getElem?_eq_some_iff.mp ho).1;omega)
theorem s6(hk:1<=k){M:Mem}{n:Nat}(g:L0 M n){L:List (Option Nat)}(hl:L.length<=192)(hs:Sg L){a0 a1 a3 a4 a5 o7:Option T}:∃L' M' p7,px (glT gs) (Pk (glT gs) Tb.fns Cs k) [2,6] g_6 [a0,a1,some (.cell n),a3,a4,a5,some (.cell M.length),o7] (M++[L.map oT])=.ok (.nx [a0,a1,some (.cell n),a3,a4,a5,some (.cell M.length),p7],M'++[L'.map oT])/\Kept n M M'/\L'.length=L.length/\Sg L':=by
 have hn:n<M.length:=by obtain⟨a,b,e,_⟩:=g;exact(List.getElem?_eq_some_iff.mp e).1
 have iS:∀{Q:Mem},Q.length=M.length->IsS (Q++[L.map oT]) (.cell M.length) (L.map oT):=λ{Q} hq=>.inr ⟨_,rfl,by rw[<-hq];simp⟩;have q0:=neE (iS rfl);by_cases h0:L=[]
 ·rw[vE h0]at q0;refine⟨L,M,o7,?_,Kept.refl g,rfl,hs⟩;generalize M++[L.map oT]=Q at *;rw[g_6];simp[q0]
 ·rw[vD h0]at q0;have lp:0<L.length:=List.length_pos_iff.mpr h0;obtain⟨z,Q1,e1,_,y1⟩:=out (k:=k) hk (B6 (C:=[L.map oT]) g) (m:=4) (by decide);obtain⟨M1,rfl,k1⟩:=Qh hn y1;clear y1;by_cases h3:z=3
  ·obtain⟨j,Q2,e2,hj,k2⟩:=out (k:=k) hk (B6 (C:=[L.map oT]) k1.good) (m:=L.length) (by omega);have y2:=k2;clear k2;obtain⟨M2,rfl,k2⟩:=Qh (by rw[k1.len];exact hn) y2;clear y2;have l2:M2.length=M.length:=by rw[k2.len,k1.len]
   have ln:zr (M1++[L.map oT]) .len [.cell M.length]=some (N L.length,true):=by rw[(iS k1.len).len,wL]
   have ix:Qe (M2++[L.map oT]) (.cell M.length) (N j)=some (oT (L.getD j none),true):=by rw[(iS l2).idx,V3 hj,Option.map_some,X8]
   cases hv:L.getD j none with
   |none=>
    rw[hv]at ix;have i1:∀{M:Mem},qe M .isnot (oT none) (.v .non)=some false:=λ{M}=>zS none;refine⟨L,M2,some (N j),?_,k1.trans k2,rfl,hs⟩;clear iS;generalize M++[L.map oT]=Q at *;generalize M1++[L.map oT]=Q1 at *;generalize M2++[L.map oT]=Q2 at *;rw[g_6];simp[q0,e1,h3,ln,e2,ix,-jx,i1]
   |some v=>
    rw[hv]at ix;have h2:v<2:=hs _ (by rw[<-hv,wG,wA hj];exact wg hj) v rfl;have i1:∀{M:Mem},qe M .isnot (N v) (.v .non)=some true:=λ{M}=>zS (some v);have ix:Qe (M2++[L.map oT]) (.cell M.length) (N j)=some (N v,true):=ix;have sb:∀{M:Mem},zJ M .sub (N 1) (N v)=some (N (1-v),true):=λ{M}=>qCI (by omega);have pt:n6 (M2++[L.map oT]) (.cell M.length) (N j) (N (1-v))=some (M2++[(L.set j (some (1-v))).map oT]):=by
     rw[L7 (xs:=L.map oT) (by rw[<-l2];simp) (by simpa using hj),<-l2,wS _ _ (Nat.le_refl _),vA,List.map_set];rfl
    refine⟨L.set j (some (1-v)),M2,some (N j),?_,k1.trans k2,by simp,λo ho u hu=>?_⟩
    ·clear iS;generalize (L.set j (some (1-v))).map oT=LS at *;generalize M2++[LS]=Q3 at *;generalize M++[L.map oT]=Q at *;generalize M1++[L.map oT]=Q1 at *;generalize M2++[L.map oT]=Q2 at *;rw[g_6];simp[q0,e1,h3,ln,e2,ix,-jx,i1,sb,pt,-T3]
    ·rcases List.mem_or_eq_of_mem_set ho with y|y
     ·exact hs o y u hu
     ·rw[y]at hu;cases hu;omega
  ·refine⟨L,M1,o7,?_,k1,rfl,hs⟩;clear iS;generalize M++[L.map oT]=Q at *;generalize M1++[L.map oT]=Q1 at *;rw[g_6];simp[q0,e1,h3]
theorem qA0(hk:14<=k)(ns:List Int){i:Nat}(hi:i<=62){M:Mem}(hM:WfM M){o2 o3 o4 o5 o6 o7:Option T}:∃p2 p3 p4 p5 p6 p7 M',pxs (glT gs) (Pk (glT gs) Tb.fns Cs k) [2,6] T7 [some (.fz (ns.map λn=>.v (.int n))),some (N i),o2,o3,o4,o5,o6,o7] M=.ok (.nx [some (.fz (ns.map λn=>.v (.int n))),some (N i),p2,p3,p4,p5,p6,p7],M')/\WfM M':=by
 obtain⟨g0,r0,e1,hb0⟩:=bag (k:=k) (by omega) ns (kk:=i) (by omega) M;have gd:L0 (M++[stT g0 r0]) M.length:=⟨g0,r0,by simp,hb0⟩
 have hM0:WfM (M++[stT g0 r0]):=hM.one (Zm [g0,r0]);have th0:thaw M.length (.lst (stT g0 r0))=(.cell M.length,[stT g0 r0]):=rfl;obtain⟨s,A,K,f,M1,e2,k1,h⟩:=qCi (k:=k) (by omega) gd;obtain⟨A',M2,e3,k2,h'⟩:=s2 (k:=k) (by omega) k1.good h (a0:=some (.fz (ns.map λn=>.v (.int n)))) (a1:=some (N i)) (o4:=o4) (o5:=o5) (o6:=o6) (o7:=o7);obtain⟨W,M3,e4,k3,hw⟩:=s3 (k:=k) (by omega) k2.good h' (a0:=some (.fz (ns.map λn=>.v (.int n)))) (a1:=some (N i)) (o4:=o4) (o5:=o5) (o6:=o6) (o7:=o7);obtain⟨q,M4,e5,hq,k4⟩:=out (k:=k) (by omega) k3.good (m:=4) (by decide);obtain⟨L,M5,e6,k5,lL,sL⟩:=s5 (k:=k) (by omega) k4.good (q:=1+q) (by omega) h' hw (a0:=some (.fz (ns.map λn=>.v (.int n)))) (a1:=some (N i)) (o6:=o6) (o7:=o7);have sl:=zT (A:=A') (by rw[h'.len];exact p5 h'.s5);obtain⟨L',M6,p7,e7,k6,lL',sL'⟩:=s6 (k:=k) (by omega) k5.good (L:=L) (by omega) sL (a0:=some (.fz (ns.map λn=>.v (.int n)))) (a1:=some (N i)) (a3:=some (.tup [N s,NL A',NL K])) (a4:=some (NL W)) (a5:=some (N (1+q))) (o7:=o7);have W6:=v4 hM0 (((((k1.trans k2).trans k3).trans k4).trans k5).trans k6);have W7:WfM (M6++[L'.map oT]):=W6.one (E3 L');have e8:=qA4 (k:=k) (by omega) h' hw (by rw[lL',lL]) sL' W7 (t:=.cell M5.length) (.inr ⟨_,rfl,by rw[<-k6.len];simp⟩);refine⟨some (.cell M.length),some (.tup [N s,NL A',NL K]),some (NL W),some (N (1+q)),some (.cell M5.length),p7,M6++[L'.map oT],?_,W7⟩;have x0:px (glT gs) (Pk (glT gs) Tb.fns Cs k) [2,6] g_0 [some (.fz (ns.map λn=>.v (.int n))),some (N i),o2,o3,o4,o5,o6,o7] M=.ok (.nx [some (.fz (ns.map λn=>.v (.int n))),some (N i),some (.cell M.length),o3,o4,o5,o6,o7],M++[stT g0 r0]):=by
  rw[g_0];simp[e1,th0]
 have nfp:T.lf (.tup [N s,NL A,NL K])=false:=by simp[jC]
 have x1:px (glT gs) (Pk (glT gs) Tb.fns Cs k) [2,6] g_1 [some (.fz (ns.map λn=>.v (.int n))),some (N i),some (.cell M.length),o3,o4,o5,o6,o7] (M++[stT g0 r0])=.ok (.nx [some (.fz (ns.map λn=>.v (.int n))),some (N i),some (.cell M.length),some (.tup [N s,NL A,NL K]),o4,o5,o6,o7],M1):=by
  clear e3 h;generalize T.tup [N s,NL A,NL K]=pl at *;rw[g_1];simp[e2]
 have x4:px (glT gs) (Pk (glT gs) Tb.fns Cs k) [2,6] g_4 [some (.fz (ns.map λn=>.v (.int n))),some (N i),some (.cell M.length),some (.tup [N s,NL A',NL K]),some (NL W),o5,o6,o7] M3=.ok (.nx [some (.fz (ns.map λn=>.v (.int n))),some (N i),some (.cell M.length),some (.tup [N s,NL A',NL K]),some (NL W),some (N (1+q)),o6,o7],M4):=by
  rw[g_4];simp[e5]
 have x7:px (glT gs) (Pk (glT gs) Tb.fns Cs k) [2,6] g_7 [some (.fz (ns.map λn=>.v (.int n))),some (N i),some (.cell M.length),some (.tup [N s,NL A',NL K]),some (NL W),some (N (1+q)),some (.cell M5.length),p7] (M6++[L'.map oT])=.ok (.nx [some (.fz (ns.map λn=>.v (.int n))),some (N i),some (.cell M.length),some (.tup [N s,NL A',NL K]),some (NL W),some (N (1+q)),some (.cell M5.length),p7],M6++[L'.map oT]):=by
  clear e3 e4 e6 e7 x4 h';generalize M6++[L'.map oT]=Q at *;generalize T.tup [N s,NL A',NL K]=pl at *;rw[g_7];simp[e8]
 rw[qEg,ja x0,ja x1,ja e3,ja e4,ja x4,ja e6,ja e7,ja x7];rfl
theorem qDy(hk:14<=k)(ns:List Int):∀(m i:Nat) (M:Mem) (o1 o2 o3 o4 o5 o6 o7:Option T),i+m<=63->WfM M->∃σ' M',qq [] (.name 1) (pxs (glT gs) (Pk (glT gs) Tb.fns Cs k) [2,6] T7) ((List.range' i m).map N) [some (.fz (ns.map λn=>.v (.int n))),o1,o2,o3,o4,o5,o6,o7] M=.ok (.nx σ',M')
 | 0,i,M,o1,o2,o3,o4,o5,o6,o7,h,_=>⟨_,M,rfl⟩
 |m+1,i,M,o1,o2,o3,o4,o5,o6,o7,h,hF=>by
  obtain⟨p2,p3,p4,p5,p6,p7,M1,e,F1⟩:=qA0 hk ns (i:=i) (by omega) hF (o2:=o2) (o3:=o3) (o4:=o4) (o5:=o5) (o6:=o6) (o7:=o7);obtain⟨σ',M',e'⟩:=qDy hk ns m (i+1) M1 (some (N i)) p2 p3 p4 p5 p6 p7 (by omega) F1;refine⟨σ',M',?_⟩;rw[List.range'_succ,List.map_cons,zI,show ∀a b c d e f g h z:Option T,[a,b,c,d,e,f,g,h].set 1 z=[a,z,c,d,e,f,g,h] from λ_ _ _ _ _ _ _ _ _=>rfl,e,PR.bind_ok];exact e'
end
theorem main:∀ns:List Int,ns.length<=63->∃h',Fk Tb.fns 30 24 [.ref gs.length] (ZX gs ns)=.ok (.bl true,h'):=by
 intro ns hn;obtain⟨σ',M',e⟩:=qDy (k:=29) (by omega) ns (max 1 (min ns.length 30)) 0 [] none none none none none none none (by omega) rfl;rw[<-wx]at e;have key:∃b M2,Pk (glT gs) Tb.fns Cs 30 24 [.fz (ns.map λn=>.v (.int n))] []=.ok ((.v (.bl true),b),M2):=by
  rw[qU t24 ⟨rfl,by decide⟩ (by omega),show Cs.getD 24 []=[2,6] from rfl];clear hn;have ex:pxs (glT gs) (Pk (glT gs) Tb.fns Cs (30-1)) [2,6] b24 ([T.fz (ns.map λn=>.v (.int n))].map some++List.replicate (8-1) none) []=.ok (.rt (bT true),M'):=by
   rw[b24];simp(disch:=omega) [zw,e]
  rw[ex];exact N0 _ _ _
 obtain⟨b,M2,e2⟩:=key;exact qB0 rfl e2
end My
namespace PySem.W.Fast
theorem tw11325636044526070253:True:=trivial
theorem tw979933103559624757:True:=trivial
theorem tw5134680769614623585:True:=trivial
theorem tw3031353709086373786:True:=trivial
theorem tw17913108754892752217:True:=trivial
theorem tw14555812011686012841:True:=trivial
theorem tw8203046542628445098:True:=trivial
theorem tw10950741190112430373:True:=trivial
theorem tw15473058113078801327:True:=trivial
theorem tw13250879511891246090:True:=trivial
theorem tw11439228867905215816:True:=trivial
theorem tw3034967318562653900:True:=trivial
theorem tw2216660447041132405:True:=trivial
theorem tw15826766471693345624:True:=trivial
theorem tw1610907957615748986:True:=trivial
theorem tw13322343116933160719:True:=trivial
theorem tw13976185710798828428:True:=trivial
theorem tw5145023838708550415:True:=trivial
theorem tw1021270513126609218:True:=trivial
theorem tw14750608772800781396:True:=trivial
theorem tw16929123596672015265:True:=trivial
theorem tw8088734259650858698:True:=trivial
theorem tw7898950322366449112:True:=trivial
theorem tw12261831338089211459:True:=trivial
theorem tw14054914775842851351:True:=trivial
theorem tw8221625576592306348:True:=trivial
theorem tw8593834867817133215:True:=trivial
theorem tw8098522100499821175:True:=trivial
theorem tw1358386277852895143:True:=trivial
theorem tw491746326530428304:True:=trivial
theorem tw14940756510562945134:True:=trivial
theorem tw16461674547950963729:True:=trivial
theorem tw16022520007104780351:True:=trivial
theorem tw1202717618863628620:True:=trivial
theorem tw4178492895145165711:True:=trivial
theorem tw2224281819635992238:True:=trivial
theorem tw6266802060169535090:True:=trivial
theorem tw13903975447857962860:True:=trivial
theorem tw16219461468271263838:True:=trivial
theorem tw16839471703283485440:True:=trivial
theorem tw10187970224159299604:True:=trivial
theorem tw8637150958819518334:True:=trivial
theorem tw8062439911509109436:True:=trivial
theorem tw15416113495229016583:True:=trivial
theorem tw4277974540568546781:True:=trivial
theorem tw5362222442966157193:True:=trivial
theorem tw15753167989089053482:True:=trivial
theorem tw1474255651883087515:True:=trivial
theorem tw6166544050404346153:True:=trivial
theorem tw9011122809400695171:True:=trivial
theorem tw14754289372235461606:True:=trivial
theorem tw15711910180350310600:True:=trivial
theorem tw12966800093585087997:True:=trivial
theorem tw9751701593401767766:True:=trivial
theorem tw6491119491914778691:True:=trivial
theorem tw1176215300566094422:True:=trivial
theorem tw9273996085799182037:True:=trivial
theorem tw4014717515187329428:True:=trivial
theorem tw202315910162985282:True:=trivial
theorem tw12167482419119937530:True:=trivial
theorem tw15401709180616970457:True:=trivial
theorem tw18285615571339963901:True:=trivial
theorem tw10221658059557137352:True:=trivial
theorem tw9305285006013097867:True:=trivial
theorem tw6461578033247285488:True:=trivial
theorem tw5411025766770266124:True:=trivial
theorem tw3201045047754655267:True:=trivial
theorem tw7267709380175543743:True:=trivial
theorem tw6083349962808440222:True:=trivial
theorem tw4130567397468075417:True:=trivial
theorem tw8442311330127580054:True:=trivial
theorem tw1224396233194772069:True:=trivial
theorem tw16481629755149152407:True:=trivial
theorem tw8179851507221917060:True:=trivial
theorem tw2832954774569501039:True:=trivial
theorem tw6519075812820955850:True:=trivial
theorem tw2274594962469204519:True:=trivial
theorem tw11213024780392748219:True:=trivial
theorem tw1962357514811681870:True:=trivial
theorem tw14149189289214686150:True:=trivial
theorem tw10441584830519509319:True:=trivial
theorem tw12373530501556319618:True:=trivial
theorem tw17996526229912277698:True:=trivial
theorem tw4821349208934465071:True:=trivial
theorem tw13246242247227242095:True:=trivial
theorem tw10248875872278507463:True:=trivial
theorem tw17559789505524478442:True:=trivial
theorem tw15050151837980546427:True:=trivial
theorem tw11157559171705304428:True:=trivial
theorem tw18257579588848688145:True:=trivial
theorem tw4788863696432017911:True:=trivial
theorem tw17052657211395443945:True:=trivial
theorem tw14106501060185984484:True:=trivial
theorem tw9441909009497318452:True:=trivial
theorem tw3301457223280947951:True:=trivial
theorem tw7401506705930456883:True:=trivial
theorem tw10811856429976791264:True:=trivial
theorem tw13117600530395534375:True:=trivial
theorem tw13356569327206651689:True:=trivial
theorem tw11071439528185510196:True:=trivial
theorem tw11976924020193146906:True:=trivial
theorem tw5696125934646434570:True:=trivial
theorem tw7149244782441331082:True:=trivial
theorem tw7329324213156864088:True:=trivial
theorem tw7148873473490292029:True:=trivial
theorem tw11890274267513825936:True:=trivial
theorem tw7147001514261658785:True:=trivial
theorem tw3506732666637962763:True:=trivial
theorem tw1647319989434655501:True:=trivial
theorem tw13797159656990344129:True:=trivial
theorem tw5954963236875966589:True:=trivial
theorem tw6354723958325862903:True:=trivial
theorem tw12143546623470875319:True:=trivial
theorem tw17612024863153585424:True:=trivial
theorem tw15587987752517002673:True:=trivial
theorem tw11152082043810799919:True:=trivial
theorem tw8367522640070254604:True:=trivial
theorem tw16874563554212031460:True:=trivial
theorem tw11400622264641863236:True:=trivial
theorem tw9203162246355745210:True:=trivial
theorem tw10660036729278637156:True:=trivial
theorem tw1841446820791946532:True:=trivial
theorem tw4507951917985914062:True:=trivial
theorem tw16196691927026316973:True:=trivial
theorem tw11928232378730928850:True:=trivial
theorem tw14976860080072881782:True:=trivial
theorem tw10544474003211495626:True:=trivial
theorem tw16134461694588063588:True:=trivial
theorem tw16236841582374106234:True:=trivial
theorem tw7244070715354442531:True:=trivial
theorem tw13264728929234993853:True:=trivial
theorem tw6696761032192057873:True:=trivial
theorem tw16451925468181846062:True:=trivial
theorem tw4274023501773580822:True:=trivial
theorem tw11868816581465622086:True:=trivial
theorem tw16659280086753230311:True:=trivial
theorem tw11310382227138711533:True:=trivial
theorem tw4231984119466327187:True:=trivial
theorem tw3013963896288444271:True:=trivial
theorem tw14930621646691083930:True:=trivial
theorem tw530782980383871430:True:=trivial
theorem tw9459963741560468508:True:=trivial
theorem tw6359131294257596893:True:=trivial
theorem tw16253346749633326818:True:=trivial
theorem tw9085253832969571782:True:=trivial
theorem tw633494516798689123:True:=trivial
theorem tw7153793914369554921:True:=trivial
theorem tw14758038299341341785:True:=trivial
theorem tw4788890170049027975:True:=trivial
theorem tw2391888224060914655:True:=trivial
theorem tw4827076484569921622:True:=trivial
theorem tw5291126820498219689:True:=trivial
theorem tw8086396932441484658:True:=trivial
theorem tw4787391729465142305:True:=trivial
theorem tw1930566873830592048:True:=trivial
theorem tw10712486516263050898:True:=trivial
theorem tw14734073599936984777:True:=trivial
theorem tw12958566184567043219:True:=trivial
theorem tw8864144262380149176:True:=trivial
theorem tw16548384933418828050:True:=trivial
theorem tw12218979883724028960:True:=trivial
theorem tw5647022003989716663:True:=trivial
theorem tw14224441261660222312:True:=trivial
theorem tw3093054197746131033:True:=trivial
theorem tw14000540059561550434:True:=trivial
theorem tw360925399536456064:True:=trivial
theorem tw1470746346270628253:True:=trivial
theorem tw6802440016812007315:True:=trivial
theorem tw16019004693241081453:True:=trivial
theorem tw9674888405028371341:True:=trivial
theorem tw3445961828465403204:True:=trivial
theorem tw10573947050364594520:True:=trivial
theorem tw9392067988296982126:True:=trivial
theorem tw13037432740494591680:True:=trivial
theorem tw9446004321816094951:True:=trivial
theorem tw4089872901751749542:True:=trivial
theorem tw16165474275803216633:True:=trivial
theorem tw13612609698231866372:True:=trivial
theorem tw2633043017083067807:True:=trivial
theorem tw10587152883183568940:True:=trivial
theorem tw9382718043243028261:True:=trivial
theorem tw11422299794591230296:True:=trivial
theorem tw18174123659114341701:True:=trivial
theorem tw5897478998391187382:True:=trivial
theorem tw17775848145722600349:True:=trivial
theorem tw16509746532157846294:True:=trivial
theorem tw17355157024090987176:True:=trivial
theorem tw11831090486011086638:True:=trivial
theorem tw17797972456696618315:True:=trivial
theorem tw18104374137753573091:True:=trivial
theorem tw4289580914687473403:True:=trivial
theorem tw17514500682455451576:True:=trivial
theorem tw5850537213132187130:True:=trivial
theorem tw10649887496287829983:True:=trivial
theorem tw15738765603420418598:True:=trivial
theorem tw8941709254870818351:True:=trivial
theorem tw16481064303243207038:True:=trivial
theorem tw285430489732468695:True:=trivial
theorem tw13296271956262750820:True:=trivial
theorem tw13776839957173218378:True:=trivial
theorem tw2041510607932026069:True:=trivial
theorem tw13865917585212694959:True:=trivial
theorem tw9463765126903528258:True:=trivial
theorem tw885309482517466681:True:=trivial
theorem tw9430170871147823315:True:=trivial
theorem tw16347869715674827041:True:=trivial
theorem tw4183486657854543008:True:=trivial
theorem tw6004435457229959152:True:=trivial
theorem tw5678542755398615183:True:=trivial
theorem tw15445619146888360374:True:=trivial
theorem tw17149366736198057521:True:=trivial
theorem tw10407258437473629092:True:=trivial
theorem tw11491692909130286613:True:=trivial
theorem tw5427046854435711951:True:=trivial
theorem tw5314731561549904290:True:=trivial
theorem tw3064056732439943797:True:=trivial
theorem tw10451512922323635264:True:=trivial
end PySem.W.Fast
namespace My
open PySem PySem.Spec PyProof.Rows L2 PI
theorem dk1{d:JW}(h:d.ps.length=1)(sc:qu d.N d.ps (defScope d.st))(b:∀(kV doc pm:Value) (an:Option Addr) (cdv ct:Value),∀u0:Value,bindArgs (PySem.W.fnOf d.x d.x (zR d.st) (defBody d.st) (defScope d.st) .none kV doc pm an cdv ct) ⟨[u0],[]⟩=pure (d.ps.zip [u0])):qAh d:=⟨sc,λ_ _ _ _ _ _ us hl=>by
 rw[h]at hl;obtain⟨_,rfl⟩:=PI.len1 hl;exact b _ _ _ _ _ _ _⟩
theorem dk2{d:JW}(h:d.ps.length=2)(sc:qu d.N d.ps (defScope d.st))(b:∀(kV doc pm:Value) (an:Option Addr) (cdv ct:Value),∀u0 u1:Value,bindArgs (PySem.W.fnOf d.x d.x (zR d.st) (defBody d.st) (defScope d.st) .none kV doc pm an cdv ct) ⟨[u0,u1],[]⟩=pure (d.ps.zip [u0,u1])):qAh d:=⟨sc,λ_ _ _ _ _ _ us hl=>by
 rw[h]at hl;obtain⟨_,_,rfl⟩:=PI.len2 hl;exact b _ _ _ _ _ _ _ _⟩
theorem dk3{d:JW}(h:d.ps.length=3)(sc:qu d.N d.ps (defScope d.st))(b:∀(kV doc pm:Value) (an:Option Addr) (cdv ct:Value),∀u0 u1 u2:Value,bindArgs (PySem.W.fnOf d.x d.x (zR d.st) (defBody d.st) (defScope d.st) .none kV doc pm an cdv ct) ⟨[u0,u1,u2],[]⟩=pure (d.ps.zip [u0,u1,u2])):qAh d:=⟨sc,λ_ _ _ _ _ _ us hl=>by
 rw[h]at hl;obtain⟨_,_,_,rfl⟩:=PI.len3 hl;exact b _ _ _ _ _ _ _ _ _⟩
theorem dks:∀d∈Tb.ds,qAh d:=by
 unfold Tb;dsimp only
 repeat' (refine wQ.2 ⟨?_,?_⟩;first|exact dk1 rfl ⟨rfl,rfl,rfl,by decide +kernel,rfl,by decide +kernel,by decide +kernel⟩ λ_ _ _ _ _ _ _=>rfl|exact dk2 rfl ⟨rfl,rfl,rfl,by decide +kernel,rfl,by decide +kernel,by decide +kernel⟩ λ_ _ _ _ _ _ _ _=>rfl|exact dk3 rfl ⟨rfl,rfl,rfl,by decide +kernel,rfl,by decide +kernel,by decide +kernel⟩ λ_ _ _ _ _ _ _ _ _=>rfl)
 exact λ_ h=>nomatch h
theorem all_mk{l:PySem.W.OpenLaw}{w:World}{K:PySem.W.Frag}{h:Heap}{mg:Str->Option Value}{fa:Addr}(X:K.In h)(G:h.Ns mainGlobals mg)(hfa:mg "law"=some (.ref fa))
  (hds:∀d∈Tb.ds,qBU K d)
  {ga0:Addr}{gn0:Nat}{gsl0:Array (Option Value)}{u0_0 u0_1 u0_2 u0_3 u0_4 u0_5:Tok}(g_LENGTHS:PySem.W.nsIn K mainGlobals "LENGTHS"=some (some (.ref ga0))) (m0:K.lookup ga0=some ⟨.type "tuple",none,.seq #[.int 1 u0_0,.int 2 u0_1,.int 4 u0_2,.int 8 u0_3,.int 16 u0_4,.int 32 u0_5] gn0,gsl0⟩)
  {tg_GREATEST_SIZE:Tok}(g_GREATEST_SIZE:PySem.W.nsIn K mainGlobals "GREATEST_SIZE"=some (some (.int 5 tg_GREATEST_SIZE)))
  {tg_MOST_SENDINGS:Tok}(g_MOST_SENDINGS:PySem.W.nsIn K mainGlobals "MOST_SENDINGS"=some (some (.int 6 tg_MOST_SENDINGS)))
  (hcs:S0 K (["HealError","NoCore","NoCame","NoPlan","Clash"]:List Str)=true)
  (z_len:PySem.W.nsIn K mainGlobals "len"=some none)
  (z_all:PySem.W.nsIn K mainGlobals "all"=some none)
  (z_max:PySem.W.nsIn K mainGlobals "max"=some none)
  (z_min:PySem.W.nsIn K mainGlobals "min"=some none)
  (z_list:PySem.W.nsIn K mainGlobals "list"=some none)
  (z_int:PySem.W.nsIn K mainGlobals "int"=some none)
  (z_tuple:PySem.W.nsIn K mainGlobals "tuple"=some none)
  (z_range:PySem.W.nsIn K mainGlobals "range"=some none)
  (z_zip:PySem.W.nsIn K mainGlobals "zip"=some none)
  (z_isinstance:PySem.W.nsIn K mainGlobals "isinstance"=some none)
  (z_bool:PySem.W.nsIn K mainGlobals "bool"=some none)
  (z_enumerate:PySem.W.nsIn K mainGlobals "enumerate"=some none)
  (z_ValueError:PySem.W.nsIn K mainGlobals "ValueError"=some none)
  (main:∀ns:List Int,ns.length<=63->∃h',Fk Tb.fns 30 24 [.ref gs.length] (ZX gs ns)=.ok (.bl true,h')):
  ∃fd:FuncData,(∀(s:Shared) (v:Value),BindsTo s fd ⟨[v],[]⟩ [("_law_script",v)])/\∀base:Heap,K.In base->base.Ns mainGlobals mg->FnOk l.prog w K mg base CX0 60 fa fd ["_law_script"] (Y3 K):=by
 obtain⟨fas,fds,hT⟩:=g6 X G Tb.ds hds dks;have O:J9 K mg [ga0] Tb fas fds:=by
  refine⟨hT,λx e hx=>?_,λx hx=>?_,ClsOk.rec_ X G hcs (by decide +kernel) rfl (by decide +kernel) (by decide),λa ha=>(List.mem_cons.mp ha).elim (λz=>by subst z;exact⟨_,m0,rfl,rfl⟩) λha=>nomatch ha⟩
  ·have hx2:List.lookup x ([("LENGTHS",E.glob 0),("GREATEST_SIZE",E.cst (.int 5)),("MOST_SENDINGS",E.cst (.int 6))]:List (Str×E))=some e:=hx;simp only[List.lookup_cons,List.lookup_nil]at hx2;split at hx2
   ·rename_i hq;have hq2:x="LENGTHS":=by simpa using hq
    subst hq2;cases hx2;exact .inr ⟨_,_,rfl,PySem.W.mg_of X G g_LENGTHS,rfl⟩
   split at hx2
   ·rename_i hq;have hq2:x="GREATEST_SIZE":=by simpa using hq
    subst hq2;cases hx2;exact .inl ⟨_,_,rfl,PySem.W.mg_of X G g_GREATEST_SIZE,⟨_,rfl⟩,λ_=>rfl⟩
   split at hx2
   ·rename_i hq;have hq2:x="MOST_SENDINGS":=by simpa using hq
    subst hq2;cases hx2;exact .inl ⟨_,_,rfl,PySem.W.mg_of X G g_MOST_SENDINGS,⟨_,rfl⟩,λ_=>rfl⟩
   cases hx2
  ·have hx2:x∈(["len","all","max","min","list","int","tuple","range","zip","isinstance","bool","enumerate","ValueError"]:List Str):=List.contains_iff_mem.mp hx;simp only[List.mem_cons,wO,or_false]at hx2;rcases hx2 with rfl|rfl|rfl|rfl|rfl|rfl|rfl|rfl|rfl|rfl|rfl|rfl|rfl
   ·exact PySem.W.mg_none_of X G z_len
   ·exact PySem.W.mg_none_of X G z_all
   ·exact PySem.W.mg_none_of X G z_max
   ·exact PySem.W.mg_none_of X G z_min
   ·exact PySem.W.mg_none_of X G z_list
   ·exact PySem.W.mg_none_of X G z_int
   ·exact PySem.W.mg_none_of X G z_tuple
   ·exact PySem.W.mg_none_of X G z_range
   ·exact PySem.W.mg_none_of X G z_zip
   ·exact PySem.W.mg_none_of X G z_isinstance
   ·exact PySem.W.mg_none_of X G z_bool
   ·exact PySem.W.mg_none_of X G z_enumerate
   ·exact PySem.W.mg_none_of X G z_ValueError
 have hG:C8 K [ga0] gs:=⟨⟨.inr ⟨_,_,_,m0,rfl,rfl,by show 6<=sizeLine;decide,.cons ⟨_,rfl⟩ (.cons ⟨_,rfl⟩ (.cons ⟨_,rfl⟩ (.cons ⟨_,rfl⟩ (.cons ⟨_,rfl⟩ (.cons ⟨_,rfl⟩ (.nil))))))⟩,rfl⟩,True.intro⟩
 obtain⟨a,f,e1,e2,F,_,em,_⟩:=hT 24 _ rfl;have e:=hfa.symm.trans em;cases e;exact⟨f,qCr F (dks _ (List.mem_of_getElem? (i:=24) rfl)) rfl,λbase _ _=>L8 O hG (i:=24) rfl e1 e2 rfl main⟩
theorem walk{l:PySem.W.OpenLaw}{q:Program}{loose:List Str}{XP:(Str->Option Value)->Heap->Prop}{YP:World->Heap->Prop}{d:DefRec}{K:Params->PySem.W.Frag}(hn:l.most=some 63)(hdf:d.params.defaults=[])
  (hY:∀(w:World) (h:Heap),YP w h->(K w.params).In h)
  (F:∀(w:World) (mg:Str->Option Value) (fa:Addr) (h:Heap),(K w.params).In h->h.Ns mainGlobals mg->mg d.name=some (.ref fa) ->
   ∃fd:FuncData,(∀(s:Shared) (u:Value),BindsTo s fd ⟨[u],[]⟩ [("_law_script",u)])/\∀base:Heap,(K w.params).In base->base.Ns mainGlobals mg->FnOk l.prog w (K w.params) mg base CX0 60 fa fd ["_law_script"] (Y3 (K w.params))):
  PySem.W.WalkO q loose XP YP l.row.toRowW d [] (λf vs=>PySem.call f vs):=
 L2.walk_of (n:=63) (k:=60) (x:="_law_script") (CX:=λ_=>CX0) (sp:=λw=>Y3 (K w.params)) hn (by decide) hdf ⟨rfl,by decide,by decide,rfl⟩ hY F (λ_ _ a ns hl hO hS=>⟨a,ns,rfl,hO,hS,hl,λ_=>rfl⟩) λ_ _ _ _ _ z=>z
end My
open PySem PySem.W PyProof.Rows
set_option maxRecDepth 100000 in
set_option maxHeartbeats 0 in
theorem PySem.Challenge.cw_healhalves_k71_sent_and_come_holds : PySem.Challenge.rw_healhalves_k71_sent_and_come.Holds := by
 w_on;o_law;k_head;(case hw=>w_witness2)
 k_fill
 refine My.walk (l:=PySem.Challenge.rw_healhalves_k71_sent_and_come) rfl rfl (λw h Y=>PySem.W.kIn_of Y) ?F
 case F=>
  intro w mg fa h KX G hmg
  refine' My.all_mk KX G hmg ?ds ?g_LENGTHS ?m0 ?g_GREATEST_SIZE ?g_MOST_SENDINGS ?hcs ?z_len ?z_all ?z_max ?z_min ?z_list ?z_int ?z_tuple ?z_range ?z_zip ?z_isinstance ?z_bool ?z_enumerate ?z_ValueError My.main
  case ds=>
   unfold My.Tb;dsimp only
   repeat' (refine wQ.2 ⟨⟨_,_,_,_,_,_,_,_,_,_,by k_is,by k_is,by k_is,by k_is⟩,?_⟩)
   exact λ_ h=>nomatch h
  case hcs=>kernel_rfl
  all_goals (try k_is)
