import PyProof.Rows.All
import Wide.All
import OpenK.AllK
import Wide.FinOn
import Lean
import PyProof.EqAt
import PyProof.EqKinds
import PyProof.TupleCall
import PyProof.NeKinds
import PyProof.ZipIter
import PyProof.ReprRoads
import Wide.Words
import KE.KIntText
import PyProof.StrWalks
import PyProof.StrLawsJoin
import KE.KSortKey
import PyProof.Rows.MinMaxN
import KE.KDictOf
import KE.KItemsList
import PyProof.AttrMissHeap
import KE.KRevIter
import PyProof.EnumMake
import PyProof.EnumFor
import PyProof.WalksEnum
import PyProof.Rows.EnumRows
import PyProof.FactsAll.range_2
import PyProof.AutoRange
import PySem.Challenge.RW_healhalves_k18_papers_told
set_option bootstrap.genMatcherCode false
set_option compiler.extract_closed false
def wA:=@List.getElem?_eq_getElem
def wB:=@Nat.lt_of_lt_of_le
def wC:=@List.size_toArray
def wD:=@List.mem_append
def wE:=@List.mem_append_left
def wF:=@List.mem_range
def wG:=@List.mem_append_right
def wH:=@List.getElem?_set_ne
def wI:=@Nat.add_sub_cancel_left
def wJ:=@Nat.ne_of_lt
def wK:=@List.forall_mem_cons
def wL:=@List.all_eq_true
def wM:=@List.getElem?_take_of_lt
def wN:=@Bool.eq_iff_iff
def wO:=@List.length_take
def wP:=@List.getElem?_map
def wQ:=@List.mem_singleton
def wR:=@List.length_map
def wS:=@List.filter_cons_of_neg
def wT:=@List.map_append
def wU:=@Nat.pow_succ
def wV:=@Bool.false_ne_true
def wW:=@Nat.testBit_lt_two_pow
def wX:=@List.eraseIdx_eq_take_drop_succ
def wY:=@List.length_drop
def wZ:=@List.not_mem_nil
def wa:=@List.map_map
def wb:=@Bool.and_false
def wc:=@Bool.false_xor
def we:=@List.nodup_append
def wg:=@List.map_congr_left
def wj:=@Nat.le_of_lt
def wk:=@Nat.lt_trans
def wl:=@List.filter_eq_nil_iff
def wm:=@List.lookup_append
def wn:=@Bool.xor_false
def wo:=@List.length_filter_le
def wp:=@List.set_append_right
def wq:=@List.reverse_cons
def wt:=@List.mem_iff_getElem
def wu:=@List.getElem?_drop
def wv:=@List.dropLast_eq_take
def wx:=@List.getElem?_eq_none
def wy:=@Int.toNat_natCast
def wz:=@Bool.or_eq_false_iff
def vA:=@Nat.pow_le_pow_right
def vB:=@Option.getD_some
def vC:=@List.length_zipWith
def vD:=@Bool.false_and
def vE:=@List.nodup_nil
def vF:=@List.filter_congr
def vG:=@Nat.succ_le_succ
def vH:=@List.getElem_mem
def vI:=@Nat.le_add_right
def vJ:=@Bool.xor_self
def vK:=@List.range_eq_range'
def vL:=@List.mem_of_mem_drop
def vM:=@List.getElem?_append
def vN:=@Bool.or_eq_true
def vO:=@Nat.min_eq_left
def vP:=@List.take_left'
def vQ:=@Nat.add_comm
def vR:=@List.mem_map
def vS:=@Bool.xor_assoc
def vT:=@Nat.pow_pos
open PySem PySem.Spec in def vU:=@wpAny_bind
open PySem PySem.Spec in def vV:=@wpAny_pure
def vW:=@decide_eq_false
def vX:=@decide_eq_true
def vY:=@decide_eq_true_eq
def vZ:=@of_decide_eq_true
open PySem PySem.Spec in def va:=@wpAny_truthy_bool
def vb:=@beq_self_eq_true
set_option genSizeOf false
set_option genSizeOfSpec false
set_option Elab.async false
set_option linter.all false
set_option maxRecDepth 100000
namespace L2
open PySem PySem.Spec PyProof.Rows
noncomputable abbrev Key:=Sum Int Str
noncomputable def K2:Key->Value->Bool
 | .inl k,v=>Value.isInt k v
 | .inr x,v=>Value.isStrOf x v
noncomputable def qFw(w:World):Key->Int
 | .inl k=>hashInt k
 | .inr x=>hashStr w x
theorem qa:∀{k:Key}{v:Value},K2 k v=true->(∃i t,k=Sum.inl i/\v=Value.int i t)\/(∃x t,k=Sum.inr x/\v=Value.str x t)
 | .inl i,v,h=>by
  obtain⟨t,e⟩:=Value.isInt_shape (k:=i) (v:=v) h;exact .inl ⟨i,t,rfl,e⟩
 | .inr x,v,h=>by
  obtain⟨t,e⟩:=Value.isStrOf_shape (x:=x) (v:=v) h;exact .inr ⟨x,t,rfl,e⟩
theorem T4(i:Int)(t:Tok):K2 (.inl i) (.int i t)=true:=by simp[K2,Value.isInt]
theorem R7(x:Str)(t:Tok):K2 (.inr x) (.str x t)=true:=by simp[K2,Value.isStrOf]
theorem qBA(a b:Int):decide ((Sum.inl a:Key)=Sum.inl b)=(a==b):=by
 by_cases e:a=b
 ·subst e;simp
 ·have h:¬ (Sum.inl a:Key)=Sum.inl b:=λq=>e (Sum.inl.inj q);rw[vW h];exact(beq_eq_false_iff_ne.mpr e).symm
theorem qCU(a b:Str):decide ((Sum.inr a:Key)=Sum.inr b)=decide (a=b):=by
 by_cases e:a=b
 ·subst e;simp
 ·have h:¬ (Sum.inr a:Key)=Sum.inr b:=λq=>e (Sum.inr.inj q);rw[vW h,vW e]
theorem qBq(a:Int)(b:Str):decide ((Sum.inl a:Key)=Sum.inr b)=false:=vW (λq=>nomatch q)
theorem qBp(a:Str)(b:Int):decide ((Sum.inr a:Key)=Sum.inl b)=false:=vW (λq=>nomatch q)
noncomputable def qm(prog:Program)(w:World):PySem.KeyKind prog w Key where
 is:=K2
 hash:=qFw w
 inj:=λv a b ha hb=>by
  rcases qa ha with⟨i,t,rfl,rfl⟩|⟨x,t,rfl,rfl⟩
  ·rcases qa hb with⟨j,u,rfl,e⟩|⟨y,u,rfl,e⟩
   ·injection e with e1 _;rw[e1]
   ·exact nomatch e
  ·rcases qa hb with⟨j,u,rfl,e⟩|⟨y,u,rfl,e⟩
   ·exact nomatch e
   ·injection e with e1 _;rw[e1]
 byValue:=λk v h=>by
  rcases qa h with⟨i,t,rfl,rfl⟩|⟨x,t,rfl,rfl⟩<;>rfl
 pyHash:=λhv h=>by
  rcases qa hv with⟨i,t,rfl,rfl⟩|⟨x,t,rfl,rfl⟩
  ·exact wpAny_pyHash_int h
  ·exact wpAny_pyHash_str h
 eqBool:=λhu hv h=>by
  rcases qa hu with⟨i,t,rfl,rfl⟩|⟨x,t,rfl,rfl⟩
  ·rcases qa hv with⟨j,u,rfl,rfl⟩|⟨y,u,rfl,rfl⟩
   ·rw[qBA]at h;exact wpAny_eqBool_int h
   ·rw[qBq]at h;exact SeqAt.EqAt.int_str i t y u _ _ _ _ h
  ·rcases qa hv with⟨j,u,rfl,rfl⟩|⟨y,u,rfl,rfl⟩
   ·rw[qBp]at h;exact SeqAt.EqAt.str_int x t j u _ _ _ _ h
   ·rw[qCU]at h;exact wpAny_eqBool_str h
 «strs»:=λk x t v h=>by
  rcases qa h with⟨i,u,rfl,e⟩|⟨y,u,rfl,e⟩
  ·exact nomatch e
  ·injection e with e1 _;subst e1;cases v<;>rfl
theorem A0(prog:Program)(w:World)(i:Int)(t:Tok):(qm prog w).is (.inl i) (.int i t)=true:=T4 i t
theorem A2(prog:Program)(w:World)(x:Str)(t:Tok):(qm prog w).is (.inr x) (.str x t)=true:=R7 x t
inductive V where
 |non|bl (b:Bool)|int (i:Int)|str (x:Str)|byt (b:Array UInt8)|flt (b:UInt64)|ref (a:Addr)|ty (n:String)
 deriving DecidableEq
def RelV:V->Value->Prop
 | .non,u=>u=Value.none
 | .bl b,u=>u=Value.bool b
 | .int i,u=>∃t,u=Value.int i t
 | .str x,u=>∃t,u=Value.str x t
 | .byt b,u=>∃t,u=Value.bytes b t
 | .flt b,u=>∃t,u=Value.float b t
 | .ref a,u=>u=Value.ref a
 | .ty n,u=>u=Value.type n
abbrev Vals:List V->List Value->Prop:=Paired RelV
theorem Vals.length{xs:List V}{us:List Value}(r:Vals xs us):xs.length=us.length:=Paired.length r
theorem Vals.get:∀{xs:List V}{us:List Value}{i:Nat}{x:V},Vals xs us->xs[i]?=some x->∃u,us[i]?=some u/\RelV x u
 |_,_,_,_,.nil,e=>by simp at e
 |_,_,0,_,.cons r _,e=>by simp at e;subst e;exact⟨_,rfl,r⟩
 |_,_,i+1,x,.cons _ t,e=>by
  obtain⟨u,h1,h2⟩:=Vals.get (i:=i) (x:=x) t (by simpa using e);exact⟨u,by simpa using h1,h2⟩
theorem Vals.set{x:V}{u:Value}(r:RelV x u):∀{xs:List V}{us:List Value}(i:Nat),Vals xs us->Vals (xs.set i x) (us.set i u)
 |_,_,_,.nil=>.nil
 |_,_,0,.cons _ t=>.cons r t
 |_,_,i+1,.cons q t=>.cons q (Vals.set r i t)
theorem Vals.append:∀{xs ys:List V}{us ws:List Value},Vals xs us->Vals ys ws->Vals (xs++ys) (us++ws)
 |_,_,_,_,.nil,s=>s
 |_,_,_,_,.cons r t,s=>.cons r (Vals.append t s)
theorem Vals.take:∀{xs:List V}{us:List Value}(n:Nat),Vals xs us->Vals (xs.take n) (us.take n)
 |_,_,0,_=>.nil
 |_,_,_+1,.nil=>.nil
 |_,_,n+1,.cons r t=>.cons r (Vals.take n t)
theorem Vals.drop:∀{xs:List V}{us:List Value}(n:Nat),Vals xs us->Vals (xs.drop n) (us.drop n)
 |_,_,0,r=>r
 |_,_,_+1,.nil=>.nil
 |_,_,n+1,.cons _ t=>Vals.drop n t
def RelO:Option V->Option Value->Prop
 |some v,some u=>RelV v u
 |none,none=>True
 |_,_=>False
def KV{κ:Type}:List (κ×V)->List (κ×Value)->Prop:=Paired λ(p:κ×V) (q:κ×Value)=>p.1=q.1/\RelV p.2 q.2
noncomputable def kV:Key->V
 | .inl i=>.int i
 | .inr x=>.str x
inductive HO where
 |lst (xs:List V)
 |tup (xs:List V)
 |dK (kvs:List (Key×V))|dT (kvs:List (List Key×V))
 |set (S:Int->Bool) (n:Nat)
 |ins (C dx:Addr) (fs:List (Str×V))
 |own (x:Addr)
 |xd (fs:List (Str×V))
 |met (f x:Addr)
 |rng (lo hi:Int)
 |frz (o:Obj) (u:HO)
 |tbl (ps:Array Value)
 |ext (φ:Heap->Prop)
noncomputable abbrev Hp:=Addr->Option HO
noncomputable def upd(H:Hp)(a:Addr)(o:HO):Hp:=λb=>if b=a then some o else H b
theorem qF{H:Hp}{a:Addr}{o:HO}:upd H a o a=some o:=by unfold upd;rw[if_pos rfl]
theorem qE{H:Hp}{a b:Addr}{o:HO}(h:b≠a):upd H a o b=H b:=by unfold upd;rw[if_neg h]
theorem qC5{H:Hp}{a b:Addr}{o u:HO}(h:H a=some o)(h':H b=some u)(d:o≠u):a≠b:=by
 intro e;subst e;rw[h]at h';exact d (Option.some.inj h')
theorem ne_of_none{H:Hp}{a b:Addr}{o:HO}(h:H a=some o)(h':H b=none):a≠b:=by
 intro e;subst e;rw[h]at h';cases h'
section
variable (P:Program)(w:World)
def ObjOk(H:Hp)(h:Heap)(a:Addr):HO->Prop
 | .lst xs=>xs.length<=sizeLine/\∃(its:List Value) (n:Nat),Vals xs its/\h.get? a=some { cls:=.type "list",data:=.seq its.toArray n }
 | .tup xs=>xs.length<=sizeLine/\∃its:List Value,Vals xs its/\IsTup h a its.toArray
 | .dK kvs=>kvs.length<=sizeLine/\(a==sysModules)=false/\∃vs,KV kvs vs/\h.DictOf (qm P w) a vs
 | .dT kvs=>kvs.length<=sizeLine/\(a==sysModules)=false/\∃xs:List (List Key×Addr×Value),
   Paired (λ(p:List Key×V) (q:List Key×Addr×Value)=>p.1=q.1/\H q.2.1=some (.tup (p.1.map kV))/\RelV p.2 q.2.2) kvs xs/\
   ∃o es ep,h.get? a=some o/\o.ExactDict/\o.data=.dict es ep/\es.toList=xs.map (entryOfKey (tupleKind (qm P w)))/\(xs.map (·.1)).Nodup
 | .set S n=>h.SetOf (intKind P w) a S n
 | .ins C dx fs=>H dx=some (.own a)/\fs.length<=1000/\dx≠a/\h.get? a=some (PySem.W.instObj C dx)/\
   ∃mA,h.Ns1 dx mA/\(∀f,RelO (fs.lookup f) (mA f))/\PySem.Within mA (fs.map (·.1))
 | .own _=>∃o,h.get? a=some o
 | .xd fs=>∃mA,h.Ns1 a mA/\∀f,RelO (fs.lookup f) (mA f)
 | .rng lo hi=>∃t u v,h.get? a=some { cls:=.type "range",data:=.fields #[.int lo t,.int hi u,.int 1 v] }
 | .frz o u=>h.get? a=some o/\ObjOk H h a u
 | .tbl ps=>h.get? a=some { cls:=.none,data:=.fields ps }
 | .met f x=>h.get? a=some (PySem.W.methodObj (.ref f) (.ref x))
 | .ext φ=>φ h/\(∃o,h.get? a=some o)/\∀h1 h2:Heap,φ h1->(∀o,h1.get? a=some o->h2.get? a=some o)->φ h2
def HOk(H:Hp)(h:Heap):Prop:=∀a o,H a=some o->ObjOk P w H h a o
end
section
variable{P:Program}{w:World}{H H':Hp}{h h':Heap}{a:Addr}{o:HO}
theorem ObjOk.lt(x:ObjOk P w H h a o):a<h.objs.size:=by
 cases o with
 |lst xs=>obtain⟨_,_,_,_,e⟩:=x;exact Heap.lt_size e
 |tup xs=>obtain⟨_,_,_,p⟩:=x;exact p.lt
 |dK kvs=>obtain⟨_,_,_,_,o,_,_,e,_⟩:=x;exact Heap.lt_size e
 |dT kvs=>obtain⟨_,_,_,_,o,_,_,e,_⟩:=x;exact Heap.lt_size e
 |set S n=>obtain⟨o,_,_,_,e,_⟩:=x;exact Heap.lt_size e
 |ins C dx fs=>obtain⟨_,_,_,e,_⟩:=x;exact Heap.lt_size e
 |own y=>obtain⟨_,e⟩:=x;exact Heap.lt_size e
 |xd fs=>obtain⟨_,⟨_,_,_,e,_⟩,_⟩:=x;exact Heap.lt_size e
 |rng lo hi=>obtain⟨_,_,_,e⟩:=x;exact Heap.lt_size e
 |frz ob u=>obtain⟨e,_⟩:=x;exact Heap.lt_size e
 |tbl ps=>exact Heap.lt_size (show h.get? a=some _ from x)
 |met f y=>exact Heap.lt_size (show h.get? a=some _ from x)
 |ext φ=>obtain⟨_,⟨_,e⟩,_⟩:=x;exact Heap.lt_size e
theorem Paired.mapP{α β:Type}{F G:α->β->Prop}:∀{l₁:List α}{l₂:List β},Paired F l₁ l₂->(∀a b,F a b->G a b)->Paired G l₁ l₂
 |_,_,.nil,_=>.nil
 |_,_,.cons r t,f=>.cons (f _ _ r) (Paired.mapP t f)
theorem ObjOk.stay(x:ObjOk P w H h a o)(k:∀b u,(b=a\/H b=some (.own a))->h.get? b=some u->h'.get? b=some u)
  (ho:∀b,H b=some (.own a)->H' b=some (.own a)) (ht:∀b xs,H b=some (.tup xs)->H' b=some (.tup xs)):ObjOk P w H' h' a o:=by
 induction o with
 |lst xs=>obtain⟨z,its,n,r,e⟩:=x;exact⟨z,its,n,r,k _ _ (.inl rfl) e⟩
 |tup xs=>obtain⟨z,its,r,ob,e,c⟩:=x;exact⟨z,its,r,ob,k _ _ (.inl rfl) e,c⟩
 |dK kvs=>obtain⟨z,y,vs,r,ob,es,ep,e,c⟩:=x;exact⟨z,y,vs,r,ob,es,ep,k _ _ (.inl rfl) e,c⟩
 |dT kvs=>
  obtain⟨z,y,xs,r,ob,es,ep,e,c⟩:=x;exact⟨z,y,xs,Paired.mapP r λp q z=>⟨z.1,ht _ _ z.2.1,z.2.2⟩,ob,es,ep,k _ _ (.inl rfl) e,c⟩
 |set S n=>obtain⟨ob,es,ep,t,e,c⟩:=x;exact⟨ob,es,ep,t,k _ _ (.inl rfl) e,c⟩
 |ins C dx fs=>
  obtain⟨d,z,ne,e,mA,⟨od,es,ep,e2,c⟩,r⟩:=x;exact⟨ho _ d,z,ne,k _ _ (.inl rfl) e,mA,⟨od,es,ep,k _ _ (.inr d) e2,c⟩,r⟩
 |own y=>obtain⟨ob,e⟩:=x;exact⟨ob,k _ _ (.inl rfl) e⟩
 |xd fs=>obtain⟨mA,⟨od,es,ep,e,c⟩,r⟩:=x;exact⟨mA,⟨od,es,ep,k _ _ (.inl rfl) e,c⟩,r⟩
 |rng lo hi=>obtain⟨t,u,v,e⟩:=x;exact⟨t,u,v,k _ _ (.inl rfl) e⟩
 |frz ob u ih=>obtain⟨e,q⟩:=x;exact⟨k _ _ (.inl rfl) e,ih q⟩
 |tbl ps=>
  have e:h.get? a=some { cls:=.none,data:=.fields ps }:=x;show h'.get? a=some { cls:=.none,data:=.fields ps };exact k a _ (.inl rfl) e
 |met f y=>
  have e:h.get? a=some (PySem.W.methodObj (.ref f) (.ref y)):=x;show h'.get? a=some (PySem.W.methodObj (.ref f) (.ref y));exact k a _ (.inl rfl) e
 |ext φ=>obtain⟨p,⟨o,e⟩,st⟩:=x;exact⟨st _ _ p λo q=>k _ _ (.inl rfl) q,⟨o,k _ _ (.inl rfl) e⟩,st⟩
theorem HOk.lt(x:HOk P w H h)(e:H a=some o):a<h.objs.size:=(x a o e).lt
theorem HOk.fresh(x:HOk P w H h)(e:h.objs.size<=a):H a=none:=by
 cases q:H a with
 |none=>rfl
 |some u=>exact absurd (wB (x.lt q) e) (Nat.lt_irrefl _)
theorem HOk.kept(x:HOk P w H h)(k:∀b u,h.get? b=some u->h'.get? b=some u):HOk P w H h':=λa o e=>
 (x a o e).stay (λb u _ q=>k b u q) (λ_ q=>q) λ_ _ q=>q
theorem HOk.laid(x:HOk P w H h)(k:∀b u,h.get? b=some u->h'.get? b=some u)(hp:h.objs.size<=a)(new:ObjOk P w (upd H a o) h' a o):HOk P w (upd H a o) h':=λb u e=>by
 have hn:=x.fresh hp;by_cases hb:b=a
 ·subst hb;rw[qF]at e;cases e;exact new
 ·rw[qE hb]at e;exact(x b u e).stay (λc v _ q=>k c v q) (λc q=>by rw[qE (ne_of_none q hn)];exact q) λc xs q=>by rw[qE (ne_of_none q hn)];exact q
end
def Rd(H:Hp)(a:Addr)(u:HO):Prop:=H a=some u\/∃o,H a=some (.frz o u)
theorem Rd.ok{P:Program}{w:World}{H:Hp}{h:Heap}{a:Addr}{u:HO}(r:Rd H a u)(x:HOk P w H h):ObjOk P w H h a u:=by
 rcases r with r|⟨o,r⟩
 ·exact x a u r
 ·obtain⟨_,q⟩:=x a _ r;exact q
def Mut:Option HO->Prop
 |some (.lst _)=>True
 |some (.dK _)=>True
 |some (.dT _)=>True
 |some (.set _ _)=>True
 |some (.ins _ _ _)=>True
 |some (.ext _)=>True
 |_=>False
section
variable{P:Program}{w:World}{H:Hp}{h h':Heap}{x e:Addr}{o':HO}
theorem HOk.write(ok:HOk P w H h)(mu:Mut (H x))(he:e=x\/H e=some (.own x))(k:∀b u,b≠e->h.get? b=some u->h'.get? b=some u)(heo:∃u,h'.get? e=some u)
  (new:ObjOk P w (upd H x o') h' x o'):HOk P w (upd H x o') h':=λb u q=>by
 have nown:∀c y,H c=some (.own y)->c≠x:=λc y r z=>by subst z;rw[r]at mu;exact mu
 have ntup:∀c xs,H c=some (.tup xs)->c≠x:=λc xs r z=>by subst z;rw[r]at mu;exact mu
 by_cases hb:b=x
 ·subst hb;rw[qF]at q;cases q;exact new
 ·rw[qE hb]at q;by_cases hbe:b=e
  ·have q':H b=some (.own x):=by
    rcases he with z|z
    ·exact absurd (hbe.trans z) hb
    ·rw[hbe];exact z
   rw[q]at q';cases q';obtain⟨v,hv⟩:=heo;exact⟨v,by rw[hbe];exact hv⟩
  ·refine(ok b u q).stay (λc v hc r=>k c v ?_ r) (λc r=>by rw[qE (nown c b r)];exact r) λc xs r=>by rw[qE (ntup c xs r)];exact r
   rcases hc with rfl|hc
   ·exact hbe
   ·rintro rfl;rcases he with z|z
    ·exact nown c b hc z
    ·rw[hc]at z;cases z;exact hb rfl
end
structure Un(fs ex:List Addr)(H H':Hp)(h h':Heap):Prop where
 keep:∀b o,h.get? b=some o->H b=none->b∉fs->b∉ex->h'.get? b=some o
 slot:∀b o,h.get? b=some o->H b=none->b∈fs->b∉ex->∃sl,h'.get? b=some { o with slots:=sl }
 free:∀b o,h.get? b=some o->H b=none->b∉ex->H' b=none
 there:∀b o,h.get? b=some o->b∉ex->∃o',h'.get? b=some o'
 tups:∀b xs,H b=some (.tup xs)->H' b=some (.tup xs)
 frzs:∀b o u,H b=some (.frz o u)->H' b=some (.frz o u)
 tbls:∀b ps,H b=some (.tbl ps)->∃more,H' b=some (.tbl (ps++more))
section
variable{fs fs' ex ex':List Addr}{H H1 H2:Hp}{h h1 h2 h':Heap}{a x e:Addr}{o:HO}
theorem Un.any(u:Un fs ex H H1 h h1){b:Addr}{ob:Obj}(q:h.get? b=some ob)(n:H b=none)(hx:b∉ex):∃sl,h1.get? b=some { ob with slots:=sl }:=by
 by_cases hb:b∈fs
 ·exact u.slot b ob q n hb hx
 ·exact⟨ob.slots,u.keep b ob q n hb hx⟩
theorem Un.kept(k:∀b u,h.get? b=some u->h'.get? b=some u):Un fs ex H H h h':=
 ⟨λb ob q _ _ _=>k b ob q,λb ob q _ _ _=>⟨ob.slots,k b ob q⟩,λ_ _ _ n _=>n,λb ob q _=>⟨ob,k b ob q⟩,λ_ _ q=>q,λ_ _ _ q=>q,λ_ ps q=>⟨#[],by rw[q];simp⟩⟩
theorem Un.refl:Un fs ex H H h h:=Un.kept λ_ _ q=>q
theorem Un.laid(k:∀b u,h.get? b=some u->h'.get? b=some u)(hp:h.objs.size<=a)(hn:H a=none):Un fs ex H (upd H a o) h h' where
 keep:=λb u q _ _ _=>k b u q
 slot:=λb u q _ _ _=>⟨u.slots,k b u q⟩
 free:=λb u q n _=>by rw[qE (wJ (wB (Heap.lt_size q) hp))];exact n
 there:=λb u q _=>⟨u,k b u q⟩
 tups:=λb xs q=>by rw[qE (ne_of_none q hn)];exact q
 frzs:=λb u xs q=>by rw[qE (ne_of_none q hn)];exact q
 tbls:=λb ps q=>⟨#[],by rw[qE (ne_of_none q hn),q];simp⟩
theorem Un.write(mu:Mut (H x))(he:e=x\/H e=some (.own x))(k:∀b u,b≠e->h.get? b=some u->h'.get? b=some u)(heo:∃u,h'.get? e=some u):Un fs ex H (upd H x o) h h':=by
 have hx:∀b,H b=none->b≠x:=λb n z=>by subst z;rw[n]at mu;exact mu
 have hb:∀b,H b=none->b≠e:=λb n z=>by
  subst z;rcases he with r|r
  ·exact hx b n r
  ·rw[n]at r;cases r
 have hm:∀b u,H b=some u->¬ Mut (some u)->b≠x:=λb u q nm z=>by subst z;rw[q]at mu;exact nm mu
 refine⟨λb u q n _ _=>k b u (hb b n) q,λb u q n _ _=>⟨u.slots,k b u (hb b n) q⟩,λb u q n _=>by rw[qE (hx b n)];exact n,λb u q _=>?_,
  λb xs q=>by rw[qE (hm b _ q λz=>z)];exact q,λb u xs q=>by rw[qE (hm b _ q λz=>z)];exact q,λb ps q=>⟨#[],by rw[qE (hm b _ q λz=>z),q];simp⟩⟩
 by_cases hbe:b=e
 ·subst hbe;exact heo
 ·exact⟨u,k b u hbe q⟩
end
noncomputable def trk(h:Heap)(H:Hp):List Addr:=(List.range h.objs.size).filter λa=>(H a).isSome
noncomputable def X9(h:Heap)(H:Hp):Heap:=PySem.W.hideAll h (trk h H)
theorem P7(h:Heap)(H:Hp):(X9 h H).objs.size=h.objs.size:=PySem.W.hideAll_size _ _
theorem Z8{h:Heap}{H:Hp}{b:Addr}{o:Obj}(e:h.get? b=some o)(n:H b=none):(X9 h H).get? b=some o:=
 PySem.W.hideAll_get _ e λhm=>by
  have q:(H b).isSome=true:=(List.mem_filter.mp hm).2;rw[n]at q;simp at q
theorem qAU{h:Heap}{H:Hp}{b:Addr}{o:Obj}(e:(X9 h H).get? b=some o):h.get? b=some o/\H b=none:=by
 have e':h.get? b=some o:=PySem.W.of_hideAll (trk h H) e;refine⟨e',?_⟩;cases q:H b with
 |none=>rfl
 |some x=>
  have hm:b∈trk h H:=List.mem_filter.mpr ⟨wF.mpr (Heap.lt_size e'),by simp[q]⟩;have z:(X9 h H).get? b=none:=PySem.W.hideAll_none (trk h H) hm;rw[z]at e;cases e
noncomputable def r9(g h:Heap)(L:Addr):List (Addr×Obj):=(List.range h.objs.size).filterMap λa=>if a=L\/(g.get? a).isSome=true then none else (h.get? a).map λo=>(a,o)
noncomputable def QA(g h:Heap)(L d:Addr):List (Addr×Obj):=(r9 g h L).filter λp=>decide (p.1≠d)
structure Mod(K:PySem.W.Frag)(mg:Str->Option Value)(base:Heap):Prop where
 kin:K.In base
 glob:base.Ns mainGlobals mg
 blt:∃mb,base.Ns builtinsNs mb/\∀x:Str,x≠"__name__" -> mb x=bootBuiltins x
 nolimit:base.NoLimit
structure Cx where
 prog:Program
 w:World
 K:PySem.W.Frag
 mg:Str->Option Value
 base:Heap
 A:Around
 N:List Str
 s₀:Shared
 H₀:Hp
 env:Env
 outer:List Env
 stack:List Env
 ex:List Addr
 fn:Str->Bool
 calm:Bool
 pn:List (Addr×Obj)
 xe:Value->Shared->Prop
noncomputable def frs(l:List Env):List Addr:=l.filterMap (·.frame)
noncomputable abbrev Cx.fs(X:Cx):List Addr:=frs X.outer
def Vis(sc:Scope)(x:Str):Prop:=sc.names.lookup x=some .local\/sc.names.lookup x=some .cell\/sc.names.lookup x=some .free
def Loc(sc:Scope)(x:Str):Prop:=sc.names.lookup x=some .local\/sc.names.lookup x=some .cell
def qFj(env:Env)(h:Heap)(m:Str->Option Value)(x:Str)(u:Value):Prop:=
 (env.kindOf x=some .local/\m x=some u)\/((env.kindOf x=some .cell\/env.kindOf x=some .free)/\∃c,env.cells.lookup x=some c/\h.IsCell c (some u))
structure Cx.Ok(X:Cx):Prop where
 mod:Mod X.K X.mg X.base
 kind:X.env.scope.kind=.function
 glob:X.env.globals=mainGlobals
 blt:X.env.builtins=builtinsNs
 above:X.s₀.heap.objs.size<=X.env.locals
 inj:∀x y c,X.env.cells.lookup x=some c->X.env.cells.lookup y=some c->x=y
 has:∀x,(X.env.kindOf x=some .cell\/X.env.kindOf x=some .free)->∃c,X.env.cells.lookup x=some c
 cab:∀x c,X.fn x=true->X.env.cells.lookup x=some c->X.s₀.heap.objs.size<=c
 hd:X.calm=true->X.A.handled=none
 frames:X.A.frames=some X.stack
 stk:X.stack=X.outer\/(X.stack=X.env::X.outer/\X.env.frame=some X.env.locals)
 exf:∀b∈X.ex,b≠X.env.locals/\∀x c,X.env.cells.lookup x=some c->c≠b
 bs:∀b o,X.base.get? b=some o->X.s₀.heap.get? b=some o/\X.H₀ b=none
 bsz:X.base.objs.size<=X.s₀.heap.objs.size
 noex:∀b o,X.base.get? b=some o->b∉X.ex
 exfs:∀b∈X.ex,b∉X.fs
 funs:X.s₀.heap.FunFrames X.base X.outer
 frf:∀b∈X.fs,X.H₀ b=none
structure Inv(X:Cx)(pins:List (Addr×Obj))(σ:List (Option V))(H:Hp)(s:Shared):Prop where
 ok:X.Ok
 os:s.os=X.s₀.os
 bare:AllBare s.gens
 base:Un X.fs X.ex X.H₀ H X.s₀.heap s.heap
 loc:∃m,s.heap.Ns X.env.locals m/\∀(i:Nat) (x:Str) (v:V),X.N[i]?=some x->σ[i]?=some (some v)->Vis X.env.scope x->∃u,RelV v u/\qFj X.env s.heap m x u
 cell:∀x c,X.env.cells.lookup x=some c->∃v,s.heap.IsCell c v
 free:H X.env.locals=none
 freeC:∀x c,X.env.cells.lookup x=some c->H c=none
 pin:∀p∈X.pn++pins,s.heap.get? p.1=some p.2/\H p.1=none/\p.1≠X.env.locals/\p.1∉X.fs/\∀v,p.2.data≠.cell v
 hok:HOk X.prog X.w H s.heap
 len:σ.length=X.N.length
section
variable{X:Cx}{pins:List (Addr×Obj)}{σ:List (Option V)}{H H':Hp}{s:Shared}{h':Heap}
theorem Cx.Ok.nofr(ok:X.Ok){b:Addr}{o:Obj}(e:X.base.get? b=some o):b∉X.fs:=λhb=>by
 have:=(ok.funs.mem hb).1;rw[e]at this;cases this
theorem Inv.bs(I:Inv X pins σ H s):∀b o,X.base.get? b=some o->s.heap.get? b=some o/\H b=none:=λb o e=>
 ⟨I.base.keep b o (I.ok.bs b o e).1 (I.ok.bs b o e).2 (I.ok.nofr e) (I.ok.noex b o e),I.base.free b o (I.ok.bs b o e).1 (I.ok.bs b o e).2 (I.ok.noex b o e)⟩
theorem Inv.bk(I:Inv X pins σ H s):∀b o,X.base.get? b=some o->s.heap.get? b=some o:=λb o e=>(I.bs b o e).1
theorem Inv.mod(I:Inv X pins σ H s):Mod X.K X.mg X.base:=I.ok.mod
theorem Inv.kIn(I:Inv X pins σ H s):X.K.In s.heap:=I.ok.mod.kin.keeps I.bk
theorem Inv.lt(I:Inv X pins σ H s):X.env.locals<s.heap.objs.size:=let ⟨_,hn,_⟩:=I.loc;hn.lt
theorem Inv.sz(I:Inv X pins σ H s):X.s₀.heap.objs.size<=s.heap.objs.size:=Nat.le_trans I.ok.above (wj I.lt)
theorem Inv.nofs(I:Inv X pins σ H s){a:Addr}(h:s.heap.objs.size<=a):a∉X.fs:=λhb=>by
 obtain⟨_,o,ho,_⟩:=I.ok.funs.mem hb;exact absurd (wB (Heap.lt_size ho) (Nat.le_trans I.sz h)) (Nat.lt_irrefl _)
theorem Inv.cne(I:Inv X pins σ H s):∀x c,X.env.cells.lookup x=some c->c≠X.env.locals:=λx c e z=>by
 obtain⟨v,o,ho,hd⟩:=I.cell x c e;obtain⟨m,⟨o',es,ep,ho',hd',_⟩,_⟩:=I.loc;rw[z,ho']at ho;cases ho;rw[hd']at hd;cases hd
theorem Inv.funs(I:Inv X pins σ H s):s.heap.FunFrames X.base X.outer:=by
 have all:∀(l:List Env),(∀b∈frs l,b∈X.fs)->X.s₀.heap.FunFrames X.base l->s.heap.FunFrames X.base l:=by
  intro l
  induction l with
  |nil=>intro _ _;trivial
  |cons env r ih=>
   intro hs hl;obtain⟨hk,⟨L,o,hf,hn,ho,hd⟩,hr⟩:=hl;have hL:L∈X.fs:=hs L (by unfold frs;rw[List.filterMap_cons,hf];exact List.mem_cons_self);obtain⟨sl,e⟩:=I.base.slot L o ho (I.ok.frf L hL) hL λz=>I.ok.exfs L z hL;exact⟨hk,⟨L,_,hf,hn,e,hd⟩,ih (λb hb=>hs b (by unfold frs;rw[List.filterMap_cons,hf];exact List.mem_cons_of_mem _ hb)) hr⟩
 exact all X.outer (λ_ hb=>hb) I.ok.funs
theorem Inv.stack(I:Inv X pins σ H s):s.heap.FunFrames X.base X.stack:=by
 rcases I.ok.stk with e|⟨e,hf⟩
 ·rw[e];exact I.funs
 ·rw[e];obtain⟨m,hn,_⟩:=I.loc;refine .cons (by rw[I.ok.kind];decide) hf hn ?_ I.funs;exact Heap.get?_none_of_le (Nat.le_trans I.ok.bsz I.ok.above)
theorem Inv.stkSub(I:Inv X pins σ H s):∀b∈frs X.stack,b∈X.env.locals::X.fs:=λb hb=>by
 rcases I.ok.stk with e|⟨e,hf⟩
 ·rw[e]at hb;exact List.mem_cons_of_mem _ hb
 ·rw[e]at hb;unfold frs at hb;rw[List.filterMap_cons,hf]at hb;exact hb
theorem Inv.stkFree(I:Inv X pins σ H s):∀b∈frs X.stack,H b=none:=λb hb=>by
 rcases List.mem_cons.mp (I.stkSub b hb) with e|hb
 ·rw[e];exact I.free
 ·obtain⟨_,o,ho,_⟩:=I.ok.funs.mem hb;exact I.base.free b o ho (I.ok.frf b hb) λz=>I.ok.exfs b z hb
theorem Inv.step{g':Array GenState}{t':Nat}{d':Drawn}{ch:List Addr}(I:Inv X pins σ H s)
  (hch:∀b∈ch,(b∈X.ex\/X.s₀.heap.objs.size<=b)/\b≠X.env.locals/\(∀x c,X.env.cells.lookup x=some c->c≠b)/\∀p∈X.pn++pins,p.1≠b)
  (keep:∀b o,b≠X.env.locals->b∉X.fs->b∉ch->s.heap.get? b=some o->H b=none->h'.get? b=some o)
  (slot:∀b o,b≠X.env.locals->b∈X.fs->b∉ch->s.heap.get? b=some o->H b=none->∃sl,h'.get? b=some { o with slots:=sl }) (free:∀b o,b∉ch->s.heap.get? b=some o->H b=none->H' b=none)
  (there:∀b o,b∉ch->s.heap.get? b=some o->∃o',h'.get? b=some o')
  (tups:∀b xs,H b=some (.tup xs)->H' b=some (.tup xs)) (frzs:∀b o u,H b=some (.frz o u)->H' b=some (.frz o u)) (tbls:∀b ps,H b=some (.tbl ps)->∃more,H' b=some (.tbl (ps++more)))
  (ns:∀m,s.heap.Ns X.env.locals m->h'.Ns X.env.locals m) (hok:HOk X.prog X.w H' h') (hg:AllBare g'):
  Inv X pins σ H' { s with heap:=h',gens:=g',drawn:=d',toks:=t' }:=by
 have neL:∀b o,X.s₀.heap.get? b=some o->b≠X.env.locals:=λb o e=>wJ (wB (Heap.lt_size e) I.ok.above);have neC:∀b o,X.s₀.heap.get? b=some o->b∉X.ex->b∉ch:=λb o e hx hb=>by
  rcases(hch b hb).1 with z|z
  ·exact hx z
  ·exact absurd (wB (Heap.lt_size e) z) (Nat.lt_irrefl _)
 have cellK:∀x c,X.env.cells.lookup x=some c->∀v,s.heap.IsCell c v->h'.IsCell c v:=λx c e v ⟨o,ho,hd⟩=>by
  have nch:c∉ch:=λz=>(hch c z).2.2.1 x c e rfl;by_cases hc:c∈X.fs
  ·obtain⟨sl,q⟩:=slot c o (I.cne x c e) hc nch ho (I.freeC x c e);exact⟨_,q,hd⟩
  ·exact⟨o,keep c o (I.cne x c e) hc nch ho (I.freeC x c e),hd⟩
 refine⟨I.ok,I.os,hg,⟨λb o e n hb hx=>?_,λb o e n hb hx=>?_,λb o e n hx=>?_,λb o e hx=>?_,λb xs e=>tups b xs (I.base.tups b xs e),λb o xs e=>frzs b o xs (I.base.frzs b o xs e),λb ps e=>?_⟩,?_,λx c e=>?_,?_,λx c e=>?_,λp hp=>?_,hok,I.len⟩
 ·exact keep b o (neL b o e) hb (neC b o e hx) (I.base.keep b o e n hb hx) (I.base.free b o e n hx)
 ·obtain⟨sl,e1⟩:=I.base.slot b o e n hb hx;obtain⟨sl',e2⟩:=slot b _ (neL b o e) hb (neC b o e hx) e1 (I.base.free b o e n hx);exact⟨sl',e2⟩
 ·obtain⟨o',e1⟩:=I.base.there b o e hx;exact free b o' (neC b o e hx) e1 (I.base.free b o e n hx)
 ·obtain⟨o',e1⟩:=I.base.there b o e hx;exact there b o' (neC b o e hx) e1
 ·obtain⟨m1,e1⟩:=I.base.tbls b ps e;obtain⟨m2,e2⟩:=tbls b _ e1;exact⟨m1++m2,by rw[e2,Array.append_assoc]⟩
 ·obtain⟨m,hn,hl⟩:=I.loc;refine⟨m,ns m hn,λi x v e1 e2 e3=>?_⟩;obtain⟨u,r,l⟩:=hl i x v e1 e2 e3;refine⟨u,r,?_⟩;rcases l with l|⟨k,c,e,z⟩
  ·exact .inl l
  ·exact .inr ⟨k,c,e,cellK x c e _ z⟩
 ·obtain⟨v,z⟩:=I.cell x c e;exact⟨v,cellK x c e v z⟩
 ·obtain⟨m,⟨o,_,_,ho,_⟩,_⟩:=I.loc;exact free _ o (λz=>(hch _ z).2.1 rfl) ho I.free
 ·obtain⟨v,o,ho,hd⟩:=I.cell x c e;exact free c o (λz=>(hch c z).2.2.1 x c e rfl) ho (I.freeC x c e)
 ·obtain⟨e,n,ne,nf,d⟩:=I.pin p hp;have nch:p.1∉ch:=λz=>(hch p.1 z).2.2.2 p hp rfl;exact⟨keep p.1 p.2 ne nf nch e n,free p.1 p.2 nch e n,ne,nf,d⟩
theorem Inv.un{t':Nat}(I:Inv X pins σ H s)(u:Un X.fs [] H H' s.heap h')(hok:HOk X.prog X.w H' h'):Inv X pins σ H' { s with heap:=h',toks:=t' }:=by
 obtain⟨m,⟨o,es,ep,ho,r⟩,_⟩:=id I.loc;obtain⟨sl,hL⟩:=u.any ho I.free (by simp);exact I.step (g':=s.gens) (d':=s.drawn) (ch:=[]) (λ_ z=>nomatch z) (λb o _ hb _ e n=>u.keep b o e n hb (by simp)) (λb o _ hb _ e n=>u.slot b o e n hb (by simp)) (λb o _ e n=>u.free b o e n (by simp)) (λb o _ e=>u.there b o e (by simp)) u.tups u.frzs u.tbls (λm' hm=>by
  obtain⟨o',es',ep',ho',r'⟩:=hm;rw[ho]at ho';cases ho';exact⟨_,es',ep',hL,r'⟩) hok I.bare
theorem Inv.call{g':Array GenState}{t':Nat}{d':Drawn}{ch:List Addr}(I:Inv X pins σ H s)(u:Un (frs X.stack) ch H H' s.heap h')(hok:HOk X.prog X.w H' h')(hg:AllBare g')
  (hch:∀b∈ch,(b∈X.ex\/X.s₀.heap.objs.size<=b)/\b≠X.env.locals/\(∀x c,X.env.cells.lookup x=some c->c≠b)/\∀p∈X.pn++pins,p.1≠b):
  Inv X pins σ H' { s with heap:=h',gens:=g',drawn:=d',toks:=t' }:=by
 obtain⟨m,⟨o,es,ep,ho,r⟩,_⟩:=id I.loc;obtain⟨sl,hL⟩:=u.any ho I.free λz=>(hch _ z).2.1 rfl;exact I.step (ch:=ch) hch (λb o hL hb hc e n=>u.keep b o e n (λz=>(List.mem_cons.mp (I.stkSub b z)).elim hL hb) hc) (λb o _ _ hc e n=>u.any e n hc) (λb o hc e n=>u.free b o e n hc) (λb o hc e=>u.there b o e hc) u.tups u.frzs u.tbls (λm' hm=>by
  obtain⟨o',es',ep',ho',r'⟩:=hm;rw[ho]at ho';cases ho';exact⟨_,es',ep',hL,r'⟩) hok hg
theorem Inv.turned{t':Nat}{it:Addr}(I:Inv X pins σ H s)(k:∀b o,b≠it->s.heap.get? b=some o->h'.get? b=some o)(hn:H it=none)(hL:it≠X.env.locals)
  (h1:it∈X.ex\/X.s₀.heap.objs.size<=it) (h2:∀x c,X.env.cells.lookup x=some c->c≠it) (h3:∀p∈X.pn++pins,p.1≠it):Inv X pins σ H { s with heap:=h',toks:=t' }:=by
 have nit:∀b u,H b=some u->b≠it:=λb u e z=>by rw[z,hn]at e;cases e
 refine I.step (g':=s.gens) (d':=s.drawn) (ch:=[it]) (λb hb=>?_) (λb o _ _ hc e _=>k b o (λz=>hc (by simp[z])) e) (λb o _ _ hc e _=>⟨o.slots,k b o (λz=>hc (by simp[z])) e⟩) (λ_ _ _ _ n=>n)
  (λb o hc e=>⟨o,k b o (λz=>hc (by simp[z])) e⟩) (λ_ _ e=>e) (λ_ _ _ e=>e) (λb ps e=>⟨#[],by rw[e];simp⟩) (λm hm=>?_) (λb u e=>?_) I.bare
 ·have e:b=it:=by simpa using hb
  subst e;exact⟨h1,hL,h2,h3⟩
 ·obtain⟨o,es,ep,ho,r⟩:=hm;exact⟨o,es,ep,k _ o (Ne.symm hL) ho,r⟩
 ·refine(I.hok b u e).stay (λc v hc q=>k c v ?_ q) (λ_ q=>q) λ_ _ q=>q;rcases hc with z|z
  ·rw[z];exact nit b u e
  ·exact nit c _ z
theorem Inv.tok(I:Inv X pins σ H s)(t:Nat):Inv X pins σ H { s with toks:=t }:=I.un (h':=s.heap) (t':=t) Un.refl I.hok
theorem Inv.kept{t':Nat}(I:Inv X pins σ H s)(k:∀b u,s.heap.get? b=some u->h'.get? b=some u):Inv X pins σ H { s with heap:=h',toks:=t' }:=I.un (Un.kept k) (I.hok.kept k)
theorem Inv.laid{a:Addr}{o:HO}{t':Nat}(I:Inv X pins σ H s)(k:∀b u,s.heap.get? b=some u->h'.get? b=some u)(hp:s.heap.objs.size<=a)(new:ObjOk X.prog X.w (upd H a o) h' a o):
  Inv X pins σ (upd H a o) { s with heap:=h',toks:=t' }:=I.un (Un.laid k hp (I.hok.fresh hp)) (I.hok.laid k hp new)
theorem Inv.write{x e:Addr}{o:HO}{t':Nat}(I:Inv X pins σ H s)(mu:Mut (H x))(he:e=x\/H e=some (.own x))(k:∀b u,b≠e->s.heap.get? b=some u->h'.get? b=some u)(heo:∃u,h'.get? e=some u)
  (new:ObjOk X.prog X.w (upd H x o) h' x o):Inv X pins σ (upd H x o) { s with heap:=h',toks:=t' }:=I.un (Un.write mu he k heo) (I.hok.write mu he k heo new)
theorem Inv.pins_of{pins':List (Addr×Obj)}(I:Inv X pins σ H s)(h:∀p∈pins',s.heap.get? p.1=some p.2/\H p.1=none/\p.1≠X.env.locals/\p.1∉X.fs/\∀v,p.2.data≠.cell v):Inv X pins' σ H s:=
 ⟨I.ok,I.os,I.bare,I.base,I.loc,I.cell,I.free,I.freeC,λp hp=>(wD.mp hp).elim (λz=>I.pin p (wE _ z)) (h p),I.hok,I.len⟩
theorem D1{N:List Str}(hN:N.Nodup){i j:Nat}{x:Str}(a:N[i]?=some x)(b:N[j]?=some x):i=j:=by
 obtain⟨h1,e1⟩:=List.getElem?_eq_some_iff.mp a;obtain⟨h2,e2⟩:=List.getElem?_eq_some_iff.mp b;exact(List.getElem_inj hN).mp (e1.trans e2.symm)
theorem Jm{M:Model}{A:Around}{E:Value->Shared->Prop}{i:Nat}{x:Str}{v:V}{u:Value}{Q:Unit->Shared->Prop}(I:Inv X pins σ H s)(hN:X.N.Nodup)(hi:X.N[i]?=some x)(hx:Loc X.env.scope x)(r:RelV v u)
  (h:∀s',Inv X pins (σ.set i (some v)) H s'->(∃a,Heap.SameBut a s.heap s'.heap/\(a=X.env.locals\/X.env.cells.lookup x=some a))->Q () s') (hf:X.fn x=true\/X.env.scope.names.lookup x=some .local:=by first|exact .inl rfl|exact .inr rfl|assumption):wpAny M A (storeName X.env x u) Q E s:=by
 obtain⟨m,hn,hl⟩:=id I.loc;have hcls:(X.env.scope.kind==.class||(X.env.scope.kind==.module&&X.env.locals != X.env.globals))=false:=by rw[I.ok.kind];rfl
 have hiσ:i<σ.length:=by rw[I.len];exact(List.getElem?_eq_some_iff.mp hi).1
 have cne:=I.cne;have tracked:∀{a:Addr}{h':Heap},(∃o,s.heap.get? a=some o/\H a=none)->Heap.SameBut a s.heap h'->HOk X.prog X.w H h':=λ{a h'} ha hs b ob e=>by
  obtain⟨_,_,hfree⟩:=ha;refine(I.hok b ob e).stay (λc w' hc q=>(hs.2 c ?_).trans q) (λ_ q=>q) λ_ _ q=>q;rintro rfl;rcases hc with rfl|hc
  ·rw[hfree]at e;cases e
  ·rw[hfree]at hc;cases hc
 rcases hx with hk|hk
 ·refine wpAny_storeName_local hk hn (λh' hn' hs=>?_) hcls;obtain⟨oL,_,_,hoL,_⟩:=id hn;refine h _ ⟨I.ok,I.os,I.bare,⟨λb o e n hb hx=>?_,λb o e n hb hx=>?_,I.base.free,λb o e hx=>?_,I.base.tups,I.base.frzs,I.base.tbls⟩,⟨_,hn',λj y v' e1 e2 e3=>?_⟩,λy c e=>?_,I.free,I.freeC,λp hp=>?_,tracked ⟨oL,hoL,I.free⟩ hs,by simpa using I.len⟩ ⟨_,hs,.inl rfl⟩
  ·exact(hs.2 b (wJ (wB (Heap.lt_size e) I.ok.above))).trans (I.base.keep b o e n hb hx)
  ·obtain⟨sl,e1⟩:=I.base.slot b o e n hb hx;exact⟨sl,(hs.2 b (wJ (wB (Heap.lt_size e) I.ok.above))).trans e1⟩
  ·obtain⟨o',e1⟩:=I.base.there b o e hx;exact⟨o',(hs.2 b (wJ (wB (Heap.lt_size e) I.ok.above))).trans e1⟩
  ·by_cases hj:j=i
   ·subst hj;rw[hi]at e1;cases e1;rw[List.getElem?_set_self hiσ]at e2;cases e2;exact⟨u,r,.inl ⟨hk,by simp⟩⟩
   ·rw[wH (Ne.symm hj)]at e2;obtain⟨u',r',q⟩:=hl j y v' e1 e2 e3;refine⟨u',r',?_⟩;rcases q with⟨k,e⟩|⟨k,c,e,z⟩
    ·refine .inl ⟨k,?_⟩;have:y≠x:=λe=>hj (D1 hN e1 (e ▸ hi));simp[this,e]
    ·exact .inr ⟨k,c,e,z.sameBut hs (cne y c e)⟩
  ·obtain⟨w',z⟩:=I.cell y c e;exact⟨w',z.sameBut hs (cne y c e)⟩
  ·obtain⟨e,n,ne,nf,d⟩:=I.pin p hp;exact⟨(hs.2 p.1 ne).trans e,n,ne,nf,d⟩
 ·have hfn:X.fn x=true:=by
   rcases hf with z|z
   ·exact z
   ·rw[z]at hk;cases hk
  obtain⟨c,hc⟩:=I.ok.has x (.inl hk);obtain⟨w',z⟩:=I.cell x c hc;refine wpAny_storeName_cell I.ok.kind hk hc z (λh' hc' hs=>?_);obtain⟨oc,hoc,hocd⟩:=id z;refine h { s with heap:=h' } ⟨I.ok,I.os,I.bare,⟨λb o e n hb hx=>?_,λb o e n hb hx=>?_,I.base.free,λb o e hx=>?_,I.base.tups,I.base.frzs,I.base.tbls⟩,⟨m,hn.sameBut hs (Ne.symm (cne x c hc)),λj y v' e1 e2 e3=>?_⟩,λy c' e=>?_,I.free,I.freeC,λp hp=>?_,tracked ⟨oc,hoc,I.freeC x c hc⟩ hs,by simpa using I.len⟩ ⟨c,hs,.inr hc⟩
  ·exact(hs.2 b (wJ (wB (Heap.lt_size e) (I.ok.cab x c hfn hc)))).trans (I.base.keep b o e n hb hx)
  ·obtain⟨sl,e1⟩:=I.base.slot b o e n hb hx;exact⟨sl,(hs.2 b (wJ (wB (Heap.lt_size e) (I.ok.cab x c hfn hc)))).trans e1⟩
  ·obtain⟨o',e1⟩:=I.base.there b o e hx;exact⟨o',(hs.2 b (wJ (wB (Heap.lt_size e) (I.ok.cab x c hfn hc)))).trans e1⟩
  ·by_cases hj:j=i
   ·subst hj;rw[hi]at e1;cases e1;rw[List.getElem?_set_self hiσ]at e2;cases e2;exact⟨u,r,.inr ⟨.inl hk,c,hc,hc'⟩⟩
   ·rw[wH (Ne.symm hj)]at e2;obtain⟨u',r',q⟩:=hl j y v' e1 e2 e3;refine⟨u',r',?_⟩;rcases q with q|⟨k,c',e,z'⟩
    ·exact .inl q
    ·refine .inr ⟨k,c',e,z'.sameBut hs ?_⟩;rintro rfl;exact hj (D1 hN e1 (I.ok.inj _ _ _ e hc ▸ hi))
  ·by_cases hcc:c'=c
   ·subst hcc;exact⟨_,hc'⟩
   ·obtain⟨w2,z2⟩:=I.cell y c' e;exact⟨w2,z2.sameBut hs hcc⟩
  ·obtain⟨e,n,ne,nf,d⟩:=I.pin p hp;refine⟨(hs.2 p.1 ?_).trans e,n,ne,nf,d⟩;intro q;rw[q,hoc]at e;have q':oc=p.2:=Option.some.inj e;exact d w' (by rw[<-q'];exact hocd)
theorem jc{M:Model}{A:Around}{E:Value->Shared->Prop}{i:Nat}{x:Str}{v:V}{u:Value}{Q:Unit->Shared->Prop}(I:Inv X pins σ H s)(hN:X.N.Nodup)(hi:X.N[i]?=some x)(hx:Loc X.env.scope x)(r:RelV v u)
  (h:∀s',Inv X pins (σ.set i (some v)) H s'->Q () s') (hf:X.fn x=true\/X.env.scope.names.lookup x=some .local:=by first|exact .inl rfl|exact .inr rfl|assumption):wpAny M A (storeName X.env x u) Q E s:=
 Jm I hN hi hx r (λs' I' _=>h s' I') hf
theorem Inv.call'{s':Shared}{ch:List Addr}(I:Inv X pins σ H s)(ho:s'.os=s.os)(u:Un (frs X.stack) ch H H' s.heap s'.heap)(hok:HOk X.prog X.w H' s'.heap)(hg:AllBare s'.gens)
  (hch:∀b∈ch,(b∈X.ex\/X.s₀.heap.objs.size<=b)/\b≠X.env.locals/\(∀x c,X.env.cells.lookup x=some c->c≠b)/\∀p∈X.pn++pins,p.1≠b):Inv X pins σ H' s':=by
 obtain⟨h',g',d',t',o'⟩:=s';have e:o'=s.os:=ho;subst e;exact I.call (g':=g') (t':=t') (d':=d') u hok hg hch
end
noncomputable abbrev XK:=Value->Option Addr->Hp->Prop
noncomputable abbrev St:=List (Option V)
noncomputable abbrev VK:=V->Hp->Prop
noncomputable abbrev TE:=St->Hp->VK->Prop
noncomputable abbrev TT:=St->Hp->(Bool->Hp->Prop)->Prop
noncomputable abbrev TA:=St->Hp->(List V->Hp->Prop)->Prop
structure M6 where
 nx:St->Hp->Prop
 rt:VK
 bk:St->Hp->Prop:=λ_ _=>False
 ct:St->Hp->Prop:=λ_ _=>False
noncomputable abbrev TS:=M6->St->Hp->Prop
def EP(X:Cx)(pins:List (Addr×Obj))(σ:St)(Q:VK)(u:Value)(s':Shared):Prop:=∃v H',Inv X pins σ H' s'/\RelV v u/\Q v H'
def TP(X:Cx)(pins:List (Addr×Obj))(σ:St)(Q:Bool->Hp->Prop)(b:Bool)(s':Shared):Prop:=∃H',Inv X pins σ H' s'/\Q b H'
def AP(X:Cx)(pins:List (Addr×Obj))(σ:St)(Q:List V->Hp->Prop)(us:List Value)(s':Shared):Prop:=∃vs H',Inv X pins σ H' s'/\Vals vs us/\Q vs H'
def SP(X:Cx)(pins:List (Addr×Obj))(D:M6)(f:Flow)(s':Shared):Prop:=
 match f with
 | .next=>∃σ' H',Inv X pins σ' H' s'/\D.nx σ' H'
 | .brk=>∃σ' H',Inv X pins σ' H' s'/\D.bk σ' H'
 | .cont=>∃σ' H',Inv X pins σ' H' s'/\D.ct σ' H'
 | .ret u=>∃v σ' H',Inv X pins σ' H' s'/\RelV v u/\D.rt v H'
def PE(X:Cx)(e:Expr)(t:TE):Prop:=
 ∀(pins:List (Addr×Obj)) (s:Shared) (σ:St) (H:Hp) (Q:VK),Inv X pins σ H s->t σ H Q->wpAny (model X.prog X.w) X.A (eval e X.env) (EP X pins σ Q) X.xe s
def PT(X:Cx)(e:Expr)(t:TT):Prop:=
 ∀(pins:List (Addr×Obj)) (s:Shared) (σ:St) (H:Hp) (Q:Bool->Hp->Prop),Inv X pins σ H s->t σ H Q->wpAny (model X.prog X.w) X.A (isTrue e X.env (eval e X.env)) (TP X pins σ Q) X.xe s
def PW(X:Cx)(e:Expr)(t:TT):Prop:=
 ∀(whole:Sem Value) (pins:List (Addr×Obj)) (s:Shared) (σ:St) (H:Hp) (Q:Bool->Hp->Prop),Inv X pins σ H s->t σ H Q->wpAny (model X.prog X.w) X.A (isTrue e X.env whole) (TP X pins σ Q) X.xe s
theorem PW.pt{X:Cx}{e:Expr}{t:TT}(h:PW X e t):PT X e t:=h _
def PA(X:Cx)(es:List Expr)(t:TA):Prop:=
 ∀(pos:Pos) (pins:List (Addr×Obj)) (s:Shared) (σ:St) (H:Hp) (Q:List V->Hp->Prop),Inv X pins σ H s->t σ H Q->wpAny (model X.prog X.w) X.A (spliced (backTo pos (starEach es X.env))) (AP X pins σ Q) X.xe s
def PS(X:Cx)(st:Stmt)(t:TS):Prop:=
 ∀(pins:List (Addr×Obj)) (s:Shared) (σ:St) (H:Hp) (D:M6),Inv X pins σ H s->t D σ H->wpAny (model X.prog X.w) X.A (exec st X.env) (SP X pins D) X.xe s
def PSs(X:Cx)(st:List Stmt)(t:TS):Prop:=
 ∀(pins:List (Addr×Obj)) (s:Shared) (σ:St) (H:Hp) (D:M6),Inv X pins σ H s->t D σ H->wpAny (model X.prog X.w) X.A (execs st X.env) (SP X pins D) X.xe s
theorem thn{α:Type}{t:Sem α}{Q Q':α->Shared->Prop}{M:Model}{A:Around}{E:Value->Shared->Prop}{s:Shared}(h:wpAny M A t Q E s)(hQ:∀a s,Q a s->Q' a s):wpAny M A t Q' E s:=wpAny_mono h hQ λ_ _ x=>x
section
variable{X:Cx}
theorem bin{a b:Expr}{ta tb:TE}(ha:PE X a ta)(hb:PE X b tb){pins:List (Addr×Obj)}{s:Shared}{σ:St}{H:Hp}{R:V->V->Hp->Prop}(I:Inv X pins σ H s)(h:ta σ H λx H1=>tb σ H1 λy H2=>R x y H2)
  {α:Type}{Q:α->Shared->Prop}{f:Value->Value->Sem α}
  (hf:∀v u s2 x y H2,Inv X pins σ H2 s2->RelV x v->RelV y u->R x y H2->wpAny (model X.prog X.w) X.A (f v u) Q X.xe s2):
  wpAny (model X.prog X.w) X.A (eval a X.env) (λv s₁=>wpAny (model X.prog X.w) X.A (eval b X.env) (λu s₂=>wpAny (model X.prog X.w) X.A (f v u) Q X.xe s₂) X.xe s₁) X.xe s:=by
 refine thn (ha pins s σ H _ I h) λv s1 ⟨x,H1,I1,r1,q1⟩=>?_;refine thn (hb pins s1 σ H1 _ I1 q1) λu s2 ⟨y,H2,I2,r2,q2⟩=>?_;exact hf v u s2 x y H2 I2 r1 r2 q2
noncomputable def qFF(i:Nat):TE:=λσ H Q=>∃v,σ[i]?=some (some v)/\Q v H
noncomputable def tC(v:V):TE:=λ_ H Q=>Q v H
theorem pe_var{i:Nat}{x:Str}{pos:Pos}(hN:X.N[i]?=some x)(hv:Vis X.env.scope x)(hd:(x==("__debug__":Str))=false:=by decide)(hcd:(x==("__classdict__":Str))=false:=by decide):PE X (.Name x pos) (qFF i):=by
 intro pins s σ H Q I h;obtain⟨v,e,h⟩:=h;obtain⟨m,hn,hl⟩:=I.loc;obtain⟨u,r,l⟩:=hl i x v hN e hv;have fin:EP X pins σ Q u s:=⟨v,H,I,r,h⟩
 rcases l with⟨hk,hm⟩|⟨hk,c,hc,hcell⟩
 ·exact wpAny_Name (wpAny_loadName_local I.ok.kind hk hn hm fin) hd
 ·rcases hk with hk|hk
  ·exact wpAny_Name (wpAny_loadName_cell I.ok.kind hk hc hcell fin) hd
  ·exact wpAny_Name (wpAny_loadName_free I.ok.kind hk hc hcell fin hcd) hd
theorem pe_int {i j pos}:PE X (.Constant (.int i) j pos) (tC (.int i)):=λ_ _ _ H _ I h=>wpAny_Constant_int ⟨.int i,H,I.tok _,⟨_,rfl⟩,h⟩
theorem pe_bl {b j pos}:PE X (.Constant (.bool b) j pos) (tC (.bl b)):=λ_ _ _ H _ I h=>Constant_bool ⟨.bl b,H,I,rfl,h⟩
theorem pe_non {j pos}:PE X (.Constant .none j pos) (tC .non):=λ_ _ _ H _ I h=>Constant_none ⟨.non,H,I,rfl,h⟩
theorem pe_str {x j pos}:PE X (.Constant (.str x) j pos) (tC (.str x)):=λ_ _ _ H _ I h=>Calls.Constant_str ⟨.str x,H,I.tok _,⟨_,rfl⟩,h⟩
def Gl(X:Cx)(x:Str):Prop:=X.env.kindOf x=some .globalImplicit
theorem Ju{E:Value->Shared->Prop}{pins:List (Addr×Obj)}{s:Shared}{σ:St}{H:Hp}{x:Str}{u:Value}{pos:Pos}{Q:Value->Shared->Prop}(I:Inv X pins σ H s)(hg:Gl X x)(hm:X.mg x=some u)(h:Q u s)
  (hd:(x==("__debug__":Str))=false:=by decide):wpAny (model X.prog X.w) X.A (eval (.Name x pos) X.env) Q E s:=
 Calls.Name_function_global I.ok.kind hg (Calls.loadGlobal_global (by rw[I.ok.glob];exact I.mod.glob.keeps I.bk) hm h) hd
theorem ld_blt{E:Value->Shared->Prop}{pins:List (Addr×Obj)}{s:Shared}{σ:St}{H:Hp}{x:Str}{u:Value}{pos:Pos}{Q:Value->Shared->Prop}(I:Inv X pins σ H s)(hg:Gl X x)(hm:X.mg x=none)(hv:bootBuiltins x=some u)(h:Q u s)
  (hn:x≠"__name__":=by decide) (hd:(x==("__debug__":Str))=false:=by decide):wpAny (model X.prog X.w) X.A (eval (.Name x pos) X.env) Q E s:=by
 obtain⟨mb,h1,h2⟩:=I.mod.blt;exact Calls.Name_function_global I.ok.kind hg (Calls.loadGlobal_builtin (by rw[I.ok.glob];exact I.mod.glob.keeps I.bk) hm (by rw[I.ok.blt];exact h1.keeps I.bk) ((h2 x hn).trans hv) h) hd
theorem pe_glob{x:Str}{v:V}{u:Value}{pos:Pos}(hg:Gl X x)(hm:X.mg x=some u)(r:RelV v u)(hd:(x==("__debug__":Str))=false:=by decide):PE X (.Name x pos) (tC v):=
 λ_ _ _ H _ I h=>Ju I hg hm ⟨v,H,I,r,h⟩ hd
theorem pe_bltn{x:Str}{v:V}{u:Value}{pos:Pos}(hg:Gl X x)(hm:X.mg x=none)(hv:bootBuiltins x=some u)(r:RelV v u)(hn:x≠"__name__":=by decide)(hd:(x==("__debug__":Str))=false:=by decide):PE X (.Name x pos) (tC v):=
 λ_ _ _ H _ I h=>ld_blt I hg hm hv ⟨v,H,I,r,h⟩ hn hd
variable{a b:Expr}{ta tb:TE}{pos:Pos}
def PC(X:Cx)(op:CmpOp)(a b:Expr)(t:TE):Prop:=
 ∀(pins:List (Addr×Obj)) (s:Shared) (σ:St) (H:Hp) (Q:VK),Inv X pins σ H s->t σ H Q ->
  wpAny (model X.prog X.w) X.A (eval a X.env) (λv s₁=>wpAny (model X.prog X.w) X.A (eval b X.env) (λu s₂=>wpAny (model X.prog X.w) X.A (compareOp op v u) (EP X pins σ Q) X.xe s₂) X.xe s₁) X.xe s
noncomputable def tB(t:TE):TT:=λσ H Q=>t σ H λx H1=>∃c,x=.bl c/\Q c H1
theorem qCP{op:CmpOp}{t:TE}(h:PC X op a b t)(h1:behindInMarks op b=false:=by first|exact nobehind _ (by decide) (by decide)|rfl):PE X (.Compare a [op] [b] pos) t:=λpins s σ H Q I hw=>wpAny_Compare1 (h pins s σ H Q I hw) h1
theorem pt_val{e:Expr}{t:TE}(h:PE X e t)(he:∀whole,isTrue e X.env whole=(do let v <- whole;standAt e.pos;holding [v] (truthy v)):=by intro _;rfl):PT X e (tB t):=by
 intro pins s σ H Q I hw;refine isTrue_plain (thn (h pins s σ H _ I hw) λv s1 ⟨x,H1,I1,r1,q1⟩=>?_) (he _);obtain⟨d,rfl,q⟩:=q1;cases r1;exact va ⟨H1,I1,q⟩
variable{tA tB':TT}{QA:List Expr}
noncomputable def tAnd(t u:TT):TT:=λσ H Q=>t σ H λc H1=>if c=true then u σ H1 Q else Q false H1
noncomputable def tOr(t u:TT):TT:=λσ H Q=>t σ H λc H1=>if c=true then Q true H1 else u σ H1 Q
noncomputable def qF3(t:TT):TT:=λσ H Q=>t σ H λc H1=>Q (!c) H1
theorem pw_and1(ha:PT X a tA):PW X (.BoolOp .And [a] pos) tA:=by
 intro wh pins s σ H Q I h;refine isTrue_and (thn (ha pins s σ H Q I h) λc s1 e=>?_);cases c with
 |true=>exact isTrue_and_nil e
 |false=>exact e
theorem pw_or1(ha:PT X a tA):PW X (.BoolOp .Or [a] pos) tA:=by
 intro wh pins s σ H Q I h;refine isTrue_or (thn (ha pins s σ H Q I h) λc s1 e=>?_);cases c with
 |false=>exact isTrue_or_nil e
 |true=>exact e
theorem pw_and(ha:PT X a tA)(hb:PW X (.BoolOp .And (b::QA) pos) tB'):PW X (.BoolOp .And (a::b::QA) pos) (tAnd tA tB'):=by
 intro wh pins s σ H Q I h;refine isTrue_and (thn (ha pins s σ H _ I h) λc s1 ⟨H1,I1,q1⟩=>?_);cases c with
 |true=>exact hb wh pins s1 σ H1 Q I1 q1
 |false=>exact⟨H1,I1,q1⟩
theorem pw_or(ha:PT X a tA)(hb:PW X (.BoolOp .Or (b::QA) pos) tB'):PW X (.BoolOp .Or (a::b::QA) pos) (tOr tA tB'):=by
 intro wh pins s σ H Q I h;refine isTrue_or (thn (ha pins s σ H _ I h) λc s1 ⟨H1,I1,q1⟩=>?_);cases c with
 |true=>exact⟨H1,I1,q1⟩
 |false=>exact hb wh pins s1 σ H1 Q I1 q1
theorem pt_not(ha:PT X a tA):PT X (.UnaryOp .Not a pos) (qF3 tA):=by
 intro pins s σ H Q I h;exact isTrue_not (ha pins s σ H (λc H1=>Q (!c) H1) I h)
noncomputable def tAndV(ta tb:TE):TE:=λσ H Q=>ta σ H λx H1=>∃c,x=.bl c/\if c=true then tb σ H1 Q else Q (.bl false) H1
noncomputable def tOrV(ta tb:TE):TE:=λσ H Q=>ta σ H λx H1=>∃c,x=.bl c/\if c=true then Q (.bl true) H1 else tb σ H1 Q
noncomputable def qDT(ta:TE):TE:=λσ H Q=>ta σ H λx H1=>∃c,x=.bl c/\Q (.bl (!c)) H1
theorem pe_one {op}{t:TE}(h:PE X a t):PE X (.BoolOp op [a] pos) t:=λpins s σ H Q I hw=>BoolOp_one (h pins s σ H Q I hw)
theorem pe_and(ha:PE X a ta)(hb:PE X (.BoolOp .And (b::QA) pos) tb):PE X (.BoolOp .And (a::b::QA) pos) (tAndV ta tb):=by
 intro pins s σ H Q I h;refine BoolOp_and (thn (ha pins s σ H _ I h) λv s1 ⟨x,H1,I1,r1,q1⟩=>?_);obtain⟨c,rfl,q1⟩:=q1;cases r1;refine va ?_;cases c with
 |true=>exact hb pins s1 σ H1 Q I1 q1
 |false=>exact⟨.bl false,H1,I1,rfl,q1⟩
theorem pe_or(ha:PE X a ta)(hb:PE X (.BoolOp .Or (b::QA) pos) tb):PE X (.BoolOp .Or (a::b::QA) pos) (tOrV ta tb):=by
 intro pins s σ H Q I h;refine BoolOp_or (thn (ha pins s σ H _ I h) λv s1 ⟨x,H1,I1,r1,q1⟩=>?_);obtain⟨c,rfl,q1⟩:=q1;cases r1;refine va ?_;cases c with
 |false=>exact hb pins s1 σ H1 Q I1 q1
 |true=>exact⟨.bl true,H1,I1,rfl,q1⟩
theorem pe_not(ha:PE X a ta):PE X (.UnaryOp .Not a pos) (qDT ta):=by
 intro pins s σ H Q I h;refine UnaryOp_ (thn (ha pins s σ H _ I h) λv s1 ⟨x,H1,I1,r1,q1⟩=>?_);obtain⟨c,rfl,q1⟩:=q1;cases r1;exact not_of (va ⟨.bl (!c),H1,I1,rfl,q1⟩)
noncomputable def tIf(t:TT)(ta tb:TE):TE:=λσ H Q=>t σ H λc H1=>if c=true then ta σ H1 Q else tb σ H1 Q
theorem pe_ifExp{c:Expr}(hc:PT X c tA)(ha:PE X a ta)(hb:PE X b tb):PE X (.IfExp c a b pos) (tIf tA ta tb):=by
 intro pins s σ H Q I h;refine wpAny_IfExp (thn (hc pins s σ H _ I h) λd s1 ⟨H1,I1,q1⟩=>?_);cases d with
 |true=>exact ha pins s1 σ H1 Q I1 q1
 |false=>exact hb pins s1 σ H1 Q I1 q1
end
def SqL(K:PySem.W.Frag)(H:Hp)(a:Addr)(xs:List V):Prop:=
 Rd H a (.lst xs)\/
  ∃(o:Obj) (its:Array Value) (n:Nat),K.lookup a=some o/\o.cls=.type "list"/\o.dict=none/\o.data=.seq its n/\its.size<=sizeLine/\Vals xs its.toList
def SqT(K:PySem.W.Frag)(H:Hp)(a:Addr)(xs:List V):Prop:=
 Rd H a (.tup xs)\/
  ∃(o:Obj) (its:Array Value) (n:Nat),K.lookup a=some o/\o.cls=.type "tuple"/\o.data=.seq its n/\its.size<=sizeLine/\Vals xs its.toList
noncomputable def qFU:Value->Option V
 | .none=>some .non
 | .bool b=>some (.bl b)
 | .int i _=>some (.int i)
 | .str x _=>some (.str x)
 | .bytes b _=>some (.byt b)
 | .float b _=>some (.flt b)
 | .ref a=>some (.ref a)
 | .type n=>some (.ty n)
 |_=>none
theorem RelV.abs{x:V}{u:Value}(r:RelV x u):qFU u=some x:=by
 cases x with
 |non=>cases r;rfl
 |bl _=>cases r;rfl
 |int _=>obtain⟨t,rfl⟩:=r;rfl
 |str _=>obtain⟨t,rfl⟩:=r;rfl
 |byt _=>obtain⟨t,rfl⟩:=r;rfl
 |flt _=>obtain⟨t,rfl⟩:=r;rfl
 |ref _=>cases r;rfl
 |ty _=>cases r;rfl
theorem RelV.inj{x y:V}{u:Value}(r:RelV x u)(q:RelV y u):x=y:=Option.some.inj (r.abs.symm.trans q.abs)
theorem Vals.inj:∀{xs ys:List V}{us:List Value},Vals xs us->Vals ys us->xs=ys
 |_,_,_,.nil,.nil=>rfl
 |_,_,_,.cons r t,.cons r' t'=>by rw[r.inj r',Vals.inj t t']
section
variable{X:Cx}{pins:List (Addr×Obj)}{σ:St}{H:Hp}{s:Shared}{a:Addr}{xs ys:List V}
theorem Inv.list(I:Inv X pins σ H s)(h:SqL X.K H a xs):∃its:List Value,Vals xs its/\PlainL s.heap a its.toArray/\xs.length<=sizeLine:=by
 rcases h with h|⟨o,its,n,hk,hc,hd,hs,hz,r⟩
 ·obtain⟨z,its,n,r,e⟩:=h.ok I.hok;exact⟨its,r,⟨_,n,e,rfl,rfl,rfl⟩,z⟩
 ·refine⟨its.toList,r,⟨o,n,I.kIn a o hk,hc,hd,by simpa using hs⟩,?_⟩;have e:=r.length;simp only[Array.length_toList]at e;omega
theorem Inv.tuple(I:Inv X pins σ H s)(h:SqT X.K H a xs):∃its:List Value,Vals xs its/\IsTup s.heap a its.toArray/\xs.length<=sizeLine:=by
 rcases h with h|⟨o,its,n,hk,hc,hs,hz,r⟩
 ·obtain⟨z,its,r,p⟩:=h.ok I.hok;exact⟨its,r,p,z⟩
 ·refine⟨its.toList,r,⟨o,I.kIn a o hk,hc,n,by simpa using hs⟩,?_⟩;have e:=r.length;simp only[Array.length_toList]at e;omega
theorem Inv.list_inj(I:Inv X pins σ H s)(h:SqL X.K H a xs)(h':SqL X.K H a ys):xs=ys:=by
 obtain⟨its,r,⟨o,n,e,_,_,d⟩,_⟩:=I.list h;obtain⟨its',r',⟨o',n',e',_,_,d'⟩,_⟩:=I.list h';rw[e]at e';cases e';rw[d]at d';injection d' with d1 _;have:its=its':=by simpa using congrArg Array.toList d1
 subst this;exact r.inj r'
theorem Inv.tuple_inj(I:Inv X pins σ H s)(h:SqT X.K H a xs)(h':SqT X.K H a ys):xs=ys:=by
 obtain⟨its,r,⟨o,e,_,n,d⟩,_⟩:=I.tuple h;obtain⟨its',r',⟨o',e',_,n',d'⟩,_⟩:=I.tuple h';rw[e]at e';cases e';rw[d]at d';injection d' with d1 _;have:its=its':=by simpa using congrArg Array.toList d1
 subst this;exact r.inj r'
end
noncomputable abbrev Cx.wish(X:Cx)(E:Value->Shared->Prop):Cx:={ X with xe:=E }
noncomputable abbrev Cx.nox(X:Cx):Cx:=X.wish λ_ _=>False
theorem Cx.Ok.wish{X:Cx}(ok:X.Ok)(E:Value->Shared->Prop):(X.wish E).Ok:=
 ⟨ok.mod,ok.kind,ok.glob,ok.blt,ok.above,ok.inj,ok.has,ok.cab,ok.hd,ok.frames,ok.stk,ok.exf,ok.bs,ok.bsz,ok.noex,ok.exfs,ok.funs,ok.frf⟩
theorem Cx.Ok.unwish{X:Cx}{E:Value->Shared->Prop}(ok:(X.wish E).Ok):X.Ok:=
 ⟨ok.mod,ok.kind,ok.glob,ok.blt,ok.above,ok.inj,ok.has,ok.cab,ok.hd,ok.frames,ok.stk,ok.exf,ok.bs,ok.bsz,ok.noex,ok.exfs,ok.funs,ok.frf⟩
section
variable{X:Cx}{pins:List (Addr×Obj)}{σ:St}{H:Hp}{s:Shared}{E:Value->Shared->Prop}
theorem Inv.wish(I:Inv X pins σ H s)(E:Value->Shared->Prop):Inv (X.wish E) pins σ H s:=⟨I.ok.wish E,I.os,I.bare,I.base,I.loc,I.cell,I.free,I.freeC,I.pin,I.hok,I.len⟩
theorem Inv.unwish(I:Inv (X.wish E) pins σ H s):Inv X pins σ H s:=⟨I.ok.unwish,I.os,I.bare,I.base,I.loc,I.cell,I.free,I.freeC,I.pin,I.hok,I.len⟩
theorem SP.unwish{D:M6}{f:Flow}{s':Shared}(h:SP (X.wish E) pins D f s'):SP X pins D f s':=by
 cases f with
 |next=>obtain⟨σ',H',I,q⟩:=h;exact⟨σ',H',I.unwish,q⟩
 |brk=>obtain⟨σ',H',I,q⟩:=h;exact⟨σ',H',I.unwish,q⟩
 |cont=>obtain⟨σ',H',I,q⟩:=h;exact⟨σ',H',I.unwish,q⟩
 |ret u=>obtain⟨v,σ',H',I,r,q⟩:=h;exact⟨v,σ',H',I.unwish,r,q⟩
theorem PSs.nox{st:List Stmt}{t:TS}(h:PSs X.nox st t):PSs X st t:=λpins s σ H D I hw=>
 wpAny_mono (h pins s σ H D (I.wish _) hw) (λ_ _ q=>q.unwish) λ_ _ z=>False.elim z
end
section
variable{X:Cx}{st:Stmt}{QA:List Stmt}{t u:TS}{e:Expr}{te:TE}{pos:Pos}
noncomputable def qDB:TS:=λD σ H=>D.nx σ H
noncomputable def qFY(t u:TS):TS:=λD σ H=>t { D with nx:=u D } σ H
theorem pss_nil:PSs X [] qDB:=λ_ _ σ H _ I h=>wpAny_execs_nil ⟨σ,H,I,h⟩
theorem pss_cons(h1:PS X st t)(h2:PSs X QA u):PSs X (st::QA) (qFY t u):=by
 intro pins s σ H D I h;refine wpAny_execs_cons (thn (h1 pins s σ H { D with nx:=u D } I h) λf s1 q=>?_);cases f with
 |next=>
  obtain⟨σ',H',I',q⟩:=q;exact h2 pins s1 σ' H' D I' q
 |ret v=>exact q
 |brk=>exact q
 |cont=>exact q
theorem Inv.quiet{pins:List (Addr×Obj)}{σ:St}{H:Hp}{s:Shared}(I:Inv X pins σ H s):interactive X.env=false:=by simp[interactive,I.ok.kind]
noncomputable def qDu(te:TE):TS:=λD σ H=>te σ H λ_ H1=>D.nx σ H1
theorem ps_expr(he:PE X e te)(hs:swapsWith e none pos.line X.env=pure false:=by rfl):PS X (.Expr e pos) (qDu te):=by
 intro pins s σ H D I h;exact wpAny_Expr_any (thn (he pins s σ H _ I h) λv s1 ⟨x,H1,I1,r1,q1⟩=>⟨σ,H1,I1,q1⟩) I.quiet hs
noncomputable def qF0(te:TE):TS:=λD σ H=>te σ H D.rt
theorem ps_ret(he:PE X e te):PS X (.Return (some e) pos) (qF0 te):=by
 intro pins s σ H D I h;exact wpAny_Return_some (thn (he pins s σ H _ I h) λv s1 ⟨x,H1,I1,r1,q1⟩=>⟨x,σ,H1,I1,r1,q1⟩)
noncomputable def qFL(c:TT)(t u:TS):TS:=λD σ H=>c σ H λb H1=>if b=true then t D σ H1 else u D σ H1
theorem ps_if{c:Expr}{a b:List Stmt}{tc:TT}(hc:PT X c tc)(ha:PSs X a t)(hb:PSs X b u):PS X (.If c a b pos) (qFL tc t u):=by
 intro pins s σ H D I h;refine wpAny_If (thn (hc pins s σ H _ I h) λd s1 ⟨H1,I1,q1⟩=>?_);cases d with
 |true=>exact ha pins s1 σ H1 D I1 q1
 |false=>exact hb pins s1 σ H1 D I1 q1
end
noncomputable abbrev TG:=V->St->Hp->(St->Hp->Prop)->Prop
noncomputable abbrev TGs:=List V->St->Hp->(St->Hp->Prop)->Prop
def PG(X:Cx)(target:Expr)(t:TG):Prop:=
 ∀(pins:List (Addr×Obj)) (s:Shared) (σ:St) (H:Hp) (v:V) (u:Value) (Q:St->Hp->Prop),Inv X pins σ H s->RelV v u->t v σ H Q ->
  wpAny (model X.prog X.w) X.A (assign target X.env u) (λ_ s'=>∃σ' H',Inv X pins σ' H' s'/\Q σ' H') X.xe s
def PGs(X:Cx)(ts:List Expr)(t:TGs):Prop:=
 ∀(pins:List (Addr×Obj)) (s:Shared) (σ:St) (H:Hp) (vs:List V) (us:List Value) (Q:St->Hp->Prop),Inv X pins σ H s->Vals vs us->t vs σ H Q ->
  wpAny (model X.prog X.w) X.A (assignInOrder ((assignEach ts X.env).map (·.2)) us) (λ_ s'=>∃σ' H',Inv X pins σ' H' s'/\Q σ' H') X.xe s
noncomputable abbrev TSet:=V->V->V->Hp->(Hp->Prop)->Prop
def PSet(X:Cx)(t:TSet):Prop:=
 ∀(pins:List (Addr×Obj)) (s:Shared) (σ:St) (H:Hp) (o i v:V) (ov iv u:Value) (Q:Hp->Prop),Inv X pins σ H s->RelV o ov->RelV i iv->RelV v u->t o i v H Q ->
  wpAny (model X.prog X.w) X.A (setItem ov iv u) (λ_ s'=>∃H',Inv X pins σ H' s'/\Q H') X.xe s
section
variable{X:Cx}{pos:Pos}
noncomputable def qBn(i:Nat):TG:=λv σ H Q=>Q (σ.set i (some v)) H
theorem pg_name{i:Nat}{x:Str}(hN:X.N.Nodup)(hi:X.N[i]?=some x)(hx:Loc X.env.scope x)(hf:X.fn x=true\/X.env.scope.names.lookup x=some .local:=by first|exact .inl rfl|exact .inr rfl|assumption):PG X (.Name x pos) (qBn i):=by
 intro pins s σ H v u Q I r h;exact wpAny_assign_Name (jc I hN hi hx r (λs' I'=>⟨_,H,I',h⟩) hf)
noncomputable def qF1:TGs:=λvs σ H Q=>vs=[]/\Q σ H
noncomputable def qDl(t:TG)(u:TGs):TGs:=λvs σ H Q=>∃v r,vs=v::r/\t v σ H λσ' H'=>u r σ' H' Q
theorem pgs_nil:PGs X [] qF1:=by
 intro pins s σ H vs us Q I r h;obtain⟨e,h⟩:=h;subst e;cases r;exact assignInOrder_nil ⟨σ,H,I,h⟩
theorem pgs_cons{e:Expr}{es:List Expr}{t:TG}{u:TGs}(h1:PG X e t)(h2:PGs X es u)
  (hs:(assignEach (e::es) X.env).map (·.2)=assign e X.env::(assignEach es X.env).map (·.2):=by rfl):PGs X (e::es) (qDl t u):=by
 intro pins s σ H vs us Q I r h;obtain⟨v,vr,e1,h⟩:=h;subst e1;cases r with
 |cons r rr=>
  rw[hs];refine assignInOrder_cons (thn (h1 pins s σ H _ _ _ I r h) λ_ s1 ⟨σ1,H1,I1,q1⟩=>?_);exact h2 pins s1 σ1 H1 _ _ Q I1 rr q1
noncomputable def qFJ(K:PySem.W.Frag)(n:Nat)(t:TGs):TG:=λv σ H Q=>∃a xs,v=.ref a/\SqT K H a xs/\xs.length=n/\t xs σ H Q
theorem pg_tup{es:List Expr}{k:Nat}{t:TGs}{n:Nat}(hc:X.calm=true)(h:PGs X es t)
  (hn:(assignEach es X.env).length=n:=by rfl) (hst:(assignEach es X.env).findIdx? (·.1)=none:=by rfl):PG X (.Tuple es k pos) (qFJ X.K n t):=by
 intro pins s σ H v u Q I r hw;obtain⟨a,xs,e1,hq,hl,hw⟩:=hw;subst e1;cases r;obtain⟨its,rv,ht,hz⟩:=I.tuple hq;refine assign_Tuple_tuple (I.ok.hd hc) ht (by simp[hn,<-hl,rv.length]) hst λh' hx=>?_;have I1:Inv X pins σ H { s with heap:=h' }:=I.kept (t':=s.toks) λb o e=>hx b o (wJ (Heap.lt_size e)) e;exact h pins _ σ H xs _ Q I1 (by simpa using rv) hw
noncomputable def qF6(to ti:TE)(t:TSet):TG:=λv σ H Q=>to σ H λo H1=>ti σ H1 λi H2=>t o i v H2 λH3=>Q σ H3
theorem pg_sub{o i:Expr}{to ti:TE}{t:TSet}(ho:PE X o to)(hi:PE X i ti)(hs:PSet X t)
  (ha:∀v,assign (.Subscript o i pos) X.env v=(do
   let ov <- holding [v] (eval o X.env)
   let iv <- holding [v,ov] (eval i X.env)
   standAt pos
   holding [v,ov,iv] (setItem ov iv v)
   release [v,ov,iv] []):=by intro _;rfl):PG X (.Subscript o i pos) (qF6 to ti t):=by
 intro pins s σ H v u Q I r h;rw[ha];refine vU (wpAny_holding (thn (ho pins s σ H _ I h) λov s1 ⟨x,H1,I1,r1,q1⟩=>?_));refine vU (wpAny_holding (thn (hi pins s1 σ H1 _ I1 q1) λiv s2 ⟨y,H2,I2,r2,q2⟩=>?_));refine vU (wpAny_standAt (vU (wpAny_holding (thn (hs pins s2 σ H2 x y v ov iv u _ I2 r1 r2 r q2) λ_ s3 ⟨H3,I3,q3⟩=>?_))));exact wpAny_release ⟨σ,H3,I3,q3⟩
noncomputable def tAsg(te:TE)(g:TG):TS:=λD σ H=>te σ H λx H1=>g x σ H1 D.nx
theorem ps_asg{tg e:Expr}{te:TE}{g:TG}(he:PE X e te)(hg:PG X tg g)(hs:swapsWithSole [tg] e pos.line X.env=pure false:=by rfl)(hw:swappedStores [tg] e X.env=pure none:=by rfl)
  (h1:(assignEach [tg] X.env).map (·.2)=[assign tg X.env]:=by rfl):PS X (.Assign [tg] e pos) (tAsg te g):=by
 intro pins s σ H D I h;refine wpAny_Assign_stores (thn (he pins s σ H _ I h) λv s1 ⟨x,H1,I1,r1,q1⟩=>?_) hs hw;rw[h1];exact thn (hg pins s1 σ H1 x v _ I1 r1 q1) λ_ s2 q=>q
end
structure It where
 go:Nat->Hp->Prop
 yld:Nat->Hp->V->Hp->Prop
 stop:Nat->Hp->Prop
def Qy(X:Cx)(pins:List (Addr×Obj))(H:Hp)(b:Addr):Prop:=
 H b=none/\b≠X.env.locals/\b∉X.fs/\(b∈X.ex\/X.s₀.heap.objs.size<=b)/\(∀x c,X.env.cells.lookup x=some c->c≠b)/\∀p∈X.pn++pins,p.1≠b
theorem Inv.fpOk{X:Cx}{pins:List (Addr×Obj)}{σ:St}{H H':Hp}{s:Shared}{b:Addr}(I:Inv X pins σ H s)(hb:s.heap.objs.size<=b)(hn:H' b=none):Qy X pins H' b:=by
 refine⟨hn,Nat.ne_of_gt (wB I.lt hb),I.nofs hb,.inr (Nat.le_trans I.sz hb),λx c e z=>?_,λp hp z=>?_⟩
 ·obtain⟨v,q⟩:=I.cell x c e;exact absurd (wB q.lt (by rw[z];exact hb)) (Nat.lt_irrefl _)
 ·exact absurd (wB (Heap.lt_size (I.pin p hp).1) (by rw[z];exact hb)) (Nat.lt_irrefl _)
structure JU(P:Program)(w:World)(K:PySem.W.Frag)(tg:Expr)(J:It)(fp:List Addr)(it:Addr)(tn:Nat->Heap->Prop):Prop where
 mem:it∈fp
 obj:∀i h,tn i h->∀b∈fp,∃o,h.get? b=some o/\∀v,o.data≠.cell v
 keep:∀i h h',tn i h->(∀b∈fp,∀o,h.get? b=some o->h'.get? b=some o)->tn i h'
 item:∀(X:Cx),X.prog=P->X.w=w->X.K=K->X.calm=true->∀(i:Nat) (pins:List (Addr×Obj)) (s:Shared) (σ:St) (H:Hp) (E:Value->Shared->Prop),Inv X pins σ H s->(∀b∈fp,Qy X pins H b)->tn i s.heap->J.go i H ->
  wpAny (model P w) X.A (pyNext (.ref it)) (λr s1=>∃u,r=some u/\
   wpAny (model P w) X.A (letOwnedTupleGo tg (.ref it) u) (λ_ s2=>∃x H',Inv X pins σ H' s2/\RelV x u/\J.yld i H x H'/\tn (i+1) s2.heap/\∀b∈fp,H' b=none) E s1) E s
 done:∀(X:Cx),X.prog=P->X.w=w->X.K=K->X.calm=true->∀(i:Nat) (pins:List (Addr×Obj)) (s:Shared) (σ:St) (H:Hp) (E:Value->Shared->Prop),Inv X pins σ H s->(∀b∈fp,Qy X pins H b)->tn i s.heap->J.stop i H ->
  wpAny (model P w) X.A (pyNext (.ref it)) (λr s1=>r=none/\Inv X pins σ H s1) E s
 self:∀(A:Around) (i:Nat) (s:Shared) (Q:Value->Shared->Prop) (E:Value->Shared->Prop),tn i s.heap->Q (.ref it) s->wpAny (model P w) A (pyIter (.ref it)) Q E s
noncomputable abbrev TI:=St->Hp->(It->Hp->Prop)->Prop
def PIE(X:Cx)(pins:List (Addr×Obj))(σ:St)(tg:Expr)(R:It->Hp->Prop)(itv:Value)(s2:Shared):Prop:=
 ∃(it:Addr) (fp:List Addr) (tn:Nat->Heap->Prop) (J:It) (H':Hp),itv=.ref it/\Inv X pins σ H' s2/\JU X.prog X.w X.K tg J fp it tn/\tn 0 s2.heap/\(∀b∈fp,Qy X pins H' b)/\R J H'
def PI(X:Cx)(tg iter:Expr)(wi:TI):Prop:=
 ∀(pins:List (Addr×Obj)) (s:Shared) (σ:St) (H:Hp) (R:It->Hp->Prop),Inv X pins σ H s->wi σ H R ->
  wpAny (model X.prog X.w) X.A (eval iter X.env) (λv s1=>wpAny (model X.prog X.w) X.A (pyIter v) (PIE X pins σ tg R) X.xe s1) X.xe s
theorem qAA{M:Model}{A:Around}{E:Value->Shared->Prop}{s:Shared}{tg:Expr}{it:Addr}{u:Value}{o:Obj}{n:String}{vs:Array Value}{Q:Unit->Shared->Prop}(ho:s.heap.get? it=some o)(hc:o.cls=.type n)(hd:o.data=.fields vs)
  (hn:["enumerate","zip","dict_itemiterator","dict_reverseitemiterator","odict_iterator","itertools.zip_longest","itertools.pairwise"].contains n=false) (hQ:Q () s):wpAny M A (letOwnedTupleGo tg (.ref it) u) Q E s:=by
 unfold letOwnedTupleGo;cases tg<;>first
  |exact vV hQ
  | (cases u<;>first
    |exact vV hQ
    | (refine vU (wpAny_load ho ?_)
       rw[hc,hd];show wpAny M A (if (["enumerate","zip","dict_itemiterator","dict_reverseitemiterator","odict_iterator","itertools.zip_longest","itertools.pairwise"].contains n&&vs[0]?==some (rawInt _))=true then _ else _) Q E s;rw[if_neg (by intro h;rw[hn,vD]at h;cases h)];exact vV hQ))
noncomputable def Itl(K:PySem.W.Frag)(a:Addr):It:=
 ⟨λi H=>∃xs x,SqL K H a xs/\xs[i]?=some x,λi H x H'=>H'=H/\∀xs,SqL K H a xs->xs[i]?=some x,λi H=>∃xs,SqL K H a xs/\xs.length<=i⟩
noncomputable def Itt(K:PySem.W.Frag)(a:Addr):It:=
 ⟨λi H=>∃xs x,SqT K H a xs/\xs[i]?=some x,λi H x H'=>H'=H/\∀xs,SqT K H a xs->xs[i]?=some x,λi H=>∃xs,SqT K H a xs/\xs.length<=i⟩
noncomputable def Itr(lo:Int)(n:Nat):It:=⟨λi _=>i<n,λi H x H'=>H'=H/\x=.int (lo+i),λi _=>n<=i⟩
theorem turn_list{P:Program}{w:World}{K:PySem.W.Frag}{tg:Expr}(a it:Addr):JU P w K tg (Itl K a) [it] it (λi h=>h.IsListIter it a i) where
 mem:=by simp
 obj:=λi h st b hb=>by
  have e:b=it:=by simpa using hb
  subst e;obtain⟨o,e,c,d⟩:=st;exact⟨o,e,λv z=>by rw[d]at z;cases z⟩
 keep:=λi h h' st k=>st.at λo e=>k it (by simp) o e
 item:=by
  intro X hP hw hK hc i pins s σ H E I hf st hg;subst hP hw hK;obtain⟨xs,x,hq,hx⟩:=hg;obtain⟨its,rv,p,hz⟩:=I.list hq;obtain⟨u,hu,ru⟩:=rv.get hx;obtain⟨f0,f1,f2,f3,f4,f5⟩:=hf it (by simp);refine wpAny_pyNext_list_item st p.isList (x:=u) (by simpa using hu) λh' st' sb=>?_;have I1:Inv X pins σ H { s with heap:=h' }:=I.turned (t':=s.toks) (λb o hb e=>(sb.2 b hb).trans e) f0 f1 f3 f4 f5;obtain⟨o,e,c,d⟩:=id st';exact⟨u,rfl,qAA (s:={ s with heap:=h' }) e c d (by decide) ⟨x,H,I1,ru,⟨rfl,λys hy=>by rw[I.list_inj hy hq];exact hx⟩,st',λb hb=>(hf b hb).1⟩⟩
 done:=by
  intro X hP hw hK hc i pins s σ H E I hf st hg;subst hP hw hK;obtain⟨xs,hq,hx⟩:=hg;obtain⟨its,rv,p,hz⟩:=I.list hq;obtain⟨f0,f1,f2,f3,f4,f5⟩:=hf it (by simp);have hl:=rv.length;exact wpAny_pyNext_list_end (I.ok.hd hc) st p.isList (by simp;omega) λh' eb=>⟨rfl,I.turned (t':=s.toks) (λb o hb e=>eb b o hb e) f0 f1 f3 f4 f5⟩
 self:=λ_ _ _ _ _ st h=>wpAny_pyIter_listiter st h
theorem turn_tuple{P:Program}{w:World}{K:PySem.W.Frag}{tg:Expr}(a it:Addr):JU P w K tg (Itt K a) [it] it (λi h=>h.IsTupleIter it a i) where
 mem:=by simp
 obj:=λi h st b hb=>by
  have e:b=it:=by simpa using hb
  subst e;obtain⟨o,e,c,d⟩:=st;exact⟨o,e,λv z=>by rw[d]at z;cases z⟩
 keep:=λi h h' st k=>st.at λo e=>k it (by simp) o e
 item:=by
  intro X hP hw hK hc i pins s σ H E I hf st hg;subst hP hw hK;obtain⟨xs,x,hq,hx⟩:=hg;obtain⟨its,rv,p,hz⟩:=I.tuple hq;obtain⟨u,hu,ru⟩:=rv.get hx;obtain⟨f0,f1,f2,f3,f4,f5⟩:=hf it (by simp);refine wpAny_pyNext_tuple_item st (show s.heap.IsTuple a its.toArray from p) (x:=u) (by simpa using hu) λh' st' sb=>?_;have I1:Inv X pins σ H { s with heap:=h' }:=I.turned (t':=s.toks) (λb o hb e=>(sb.2 b hb).trans e) f0 f1 f3 f4 f5;obtain⟨o,e,c,d⟩:=id st';exact⟨u,rfl,qAA (s:={ s with heap:=h' }) e c d (by decide) ⟨x,H,I1,ru,⟨rfl,λys hy=>by rw[I.tuple_inj hy hq];exact hx⟩,st',λb hb=>(hf b hb).1⟩⟩
 done:=by
  intro X hP hw hK hc i pins s σ H E I hf st hg;subst hP hw hK;obtain⟨xs,hq,hx⟩:=hg;obtain⟨its,rv,p,hz⟩:=I.tuple hq;obtain⟨f0,f1,f2,f3,f4,f5⟩:=hf it (by simp);have hl:=rv.length;exact wpAny_pyNext_tuple_end (I.ok.hd hc) st (show s.heap.IsTuple a its.toArray from p) (by simp;omega) λh' eb=>⟨rfl,I.turned (t':=s.toks) (λb o hb e=>eb b o hb e) f0 f1 f3 f4 f5⟩
 self:=λ_ _ _ _ _ st h=>wpAny_pyIter_tupleiter st h
theorem K8{P:Program}{w:World}{K:PySem.W.Frag}{tg:Expr}(it:Addr)(lo:Int)(n:Nat):JU P w K tg (Itr lo n) [it] it (λi h=>IsRangeIter h it (lo+(i:Nat)*1) ((n:Int)-(i:Nat)) 1) where
 mem:=by simp
 obj:=λi h st b hb=>by
  have e:b=it:=by simpa using hb
  subst e;exact⟨_,st,λv z=>by
   have z':Data.fields _=Data.cell v:=z;cases z'⟩
 keep:=λi h h' st k=>k it (by simp) _ st
 item:=by
  intro X hP hw hK hc i pins s σ H E I hf st hg;subst hP hw hK;obtain⟨f0,f1,f2,f3,f4,f5⟩:=hf it (by simp);have W:=Walks.range (prog:=X.prog) (w:=X.w) (I.ok.hd hc) it lo 1 n;refine W.item i s _ _ hg st λv h' tk hv st' kk=>?_;obtain⟨t,rfl⟩:=hv;have I1:Inv X pins σ H { s with heap:=h',toks:=tk }:=I.turned (λb o hb e=>kk b o (by simpa using hb) e) f0 f1 f3 f4 f5;refine⟨_,rfl,qAA (s:={ s with heap:=h',toks:=tk }) (n:="range_iterator") st' rfl rfl (by decide) ⟨.int (lo+i),H,I1,⟨t,?_⟩,⟨rfl,rfl⟩,st',λb hb=>(hf b hb).1⟩⟩;rw[Int.mul_one]
 done:=by
  intro X hP hw hK hc i pins s σ H E I hf st hg;subst hP hw hK;obtain⟨f0,f1,f2,f3,f4,f5⟩:=hf it (by simp);exact wpAny_pyNext_range_end (I.ok.hd hc) st (by have:n<=i:=hg;omega) λh' eb=>⟨rfl,I.turned (t':=s.toks) (λb o hb e=>eb b o hb e) f0 f1 f3 f4 f5⟩
 self:=λ_ _ _ _ _ st h=>wpAny_pyIter_rangeiter st h
section
variable{X:Cx}{tg:Expr}
theorem C3{pins:List (Addr×Obj)}{σ:St}{H:Hp}{s:Shared}{R:It->Hp->Prop}{E:Value->Shared->Prop}{lo hi:Int}{t u v:Tok}{tk:Nat}(I:Inv X pins σ H s)(h1:-(2 ^ 62)<=lo)(h2:lo<2 ^ 62)(h3:-(2 ^ 62)<=hi)(h4:hi<2 ^ 62)
  (q:R (Itr lo (hi-lo).toNat) H):wpAny (model X.prog X.w) X.A (pyIter (.ref s.heap.objs.size)) (PIE X pins σ tg R) E { s with heap:=s.heap.push { cls:=.type "range",data:=.fields #[.int lo t,.int hi u,.int 1 v] },toks:=tk }:=by
 refine wpAny_pyIter_range (IsRange.new ..) (small_one h1 h2 h3 h4) ?_;have I1:Inv X pins σ H { s with heap:=s.heap.push { cls:=.type "range",data:=.fields #[.int lo t,.int hi u,.int 1 v] },toks:=tk }:=I.kept λb o e=>Heap.get?_push_of_some _ e;refine⟨(s.heap.push { cls:=.type "range",data:=.fields #[.int lo t,.int hi u,.int 1 v] }).objs.size,[(s.heap.push { cls:=.type "range",data:=.fields #[.int lo t,.int hi u,.int 1 v] }).objs.size],_,_,H,rfl,
  I1.kept (t':=tk) λb o e=>Heap.get?_push_of_some _ e,K8 _ lo (hi-lo).toNat,?_,λb hb=>?_,q⟩
 ·have e1:lo+((0:Nat):Int)*1=lo:=by simp
  have e2:(((hi-lo).toNat:Nat):Int)-((0:Nat):Int)=Builtin.Range.rangeSize lo hi 1:=by rw[rangeSize_one];split<;>omega
  show IsRangeIter _ _ (lo+((0:Nat):Int)*1) ((((hi-lo).toNat:Nat):Int)-((0:Nat):Int)) 1;rw[e1,e2];exact Heap.get?_push_size _ rfl
 ·have e:b=(s.heap.push { cls:=.type "range",data:=.fields #[.int lo t,.int hi u,.int 1 v] }).objs.size:=by simpa using hb
  subst e;exact I1.fpOk (Nat.le_refl _) (I1.hok.fresh (Nat.le_refl _))
noncomputable def qDL(ta:TA):TI:=λσ H R=>ta σ H λvs H1=>∃j:Int,vs=[.int j]/\-(2 ^ 62)<=j/\j<2 ^ 62/\R (Itr 0 j.toNat) H1
noncomputable def qC4(ta:TA):TI:=λσ H R=>ta σ H λvs H1=>∃i j:Int,vs=[.int i,.int j]/\(-(2 ^ 62)<=i/\i<2 ^ 62/\-(2 ^ 62)<=j/\j<2 ^ 62)/\R (Itr i (j-i).toNat) H1
theorem pi_range1{a:Expr}{ta:TA}{p pos:Pos}(hg:Gl X "range")(hm:X.mg "range"=none)(ha:PA X [a] ta)(hs:starEach [a] X.env=[(false,eval a X.env)]:=by rfl):PI X tg (.Call (.Name "range" p) [a] [] pos) (qDL ta):=by
 intro pins s σ H R I h;refine Call_ (ld_blt I hg hm boot_range (PyProof.Rows.callWith_type1 (thn (ha pos pins s σ H _ I h) λus s1 ⟨vs,H1,I1,r1,q1⟩=>?_) hs rfl));obtain⟨j,e,q1,q2,q⟩:=q1;subst e;cases r1 with
 |cons r rr=>
  cases rr;obtain⟨t,rfl⟩:=r;exact call_range_1 (C3 I1 (by omega) (by omega) q1 q2 (by simpa using q))
theorem pi_range2{a b:Expr}{ta:TA}{p pos:Pos}(hg:Gl X "range")(hm:X.mg "range"=none)(ha:PA X [a,b] ta)(hs:starEach [a,b] X.env=[(false,eval a X.env),(false,eval b X.env)]:=by rfl)(hs2:starEach [b] X.env=[(false,eval b X.env)]:=by rfl):
  PI X tg (.Call (.Name "range" p) [a,b] [] pos) (qC4 ta):=by
 intro pins s σ H R I h;refine Call_ (ld_blt I hg hm boot_range (PyProof.Rows.callWith_type1 (thn (ha pos pins s σ H _ I h) λus s1 ⟨vs,H1,I1,r1,q1⟩=>?_) (by rw[hs,hs2]) (by rw[hs2];rfl)));obtain⟨i,j,e,⟨q1,q2,q3,q4⟩,q⟩:=q1;subst e;cases r1 with
 |cons r rr=>
  cases rr with
  |cons r' rr=>
   cases rr;obtain⟨t,rfl⟩:=r;obtain⟨t',rfl⟩:=r';exact call_range_2 (C3 I1 q1 q2 q3 q4 q)
noncomputable def qE5(wi:TI)(g:TG)(tb:TS):TS:=λD σ H=>wi σ H λJ H1=>∃W:Nat->Nat->St->Hp->Prop,(∃m,W 0 m σ H1)/\∀i m σ H,W i m σ H ->
 (J.stop i H/\D.nx σ H)\/(J.go i H/\∃N:St->Hp->Prop,(∀σ' H',N σ' H'->∃m',m'<m/\W (i+1) m' σ' H')/\∀x H',J.yld i H x H'->g x σ H' λσ2 H2=>tb { D with nx:=N,ct:=N,bk:=D.nx } σ2 H2)
noncomputable def JS(fp:List Addr)(h:Heap):List (Addr×Obj):=fp.filterMap λb=>(h.get? b).map λo=>(b,o)
theorem zy{fp:List Addr}{h:Heap}{b:Addr}{o:Obj}(hb:b∈fp)(e:h.get? b=some o):(b,o)∈JS fp h:=List.mem_filterMap.mpr ⟨b,hb,by rw[e];rfl⟩
theorem V7{fp:List Addr}{h:Heap}{p:Addr×Obj}(hp:p∈JS fp h):p.1∈fp/\h.get? p.1=some p.2:=by
 obtain⟨b,hb,e⟩:=List.mem_filterMap.mp hp;cases q:h.get? b with
 |none=>rw[q]at e;cases e
 |some o=>
  rw[q]at e;have e':(b,o)=p:=Option.some.inj e;subst e';exact⟨hb,q⟩
theorem Inv.pinned{pins:List (Addr×Obj)}{σ:St}{H:Hp}{s:Shared}{fp:List Addr}(I:Inv X pins σ H s)(hf:∀b∈fp,Qy X pins H b)(ho:∀b∈fp,∃o,s.heap.get? b=some o/\∀v,o.data≠.cell v):Inv X (pins++JS fp s.heap) σ H s:=
 I.pins_of λp hp=>(wD.mp hp).elim (λz=>I.pin p (wG _ z)) λz=>by
  obtain⟨hb,e⟩:=V7 z;obtain⟨f0,f1,f2,_⟩:=hf p.1 hb;obtain⟨o,e',d⟩:=ho p.1 hb;rw[e]at e';cases e';exact⟨e,f0,f1,f2,d⟩
theorem Inv.unpinned{pins pl:List (Addr×Obj)}{σ:St}{H:Hp}{s:Shared}(I:Inv X (pins++pl) σ H s):Inv X pins σ H s:=I.pins_of λp hp=>I.pin p (wG _ (wE _ hp))
theorem ps_for{iter:Expr}{body:List Stmt}{wi:TI}{g:TG}{tb:TS}{pos:Pos}(hp:PassesOwn (model X.prog X.w) X.A X.env X.xe)(hc:X.calm=true)(hi:PI X tg iter wi)(hg:PG X tg g)(hb:PSs X body tb)
  (hs:∀x,foldedSetIterable iter X.env x=pure x:=by intro _;rfl):PS X (.For tg iter body [] pos) (qE5 wi g tb):=by
 intro pins s σ H D I h;refine wpAny_For (thn (hi pins s σ H _ I h) λv s1 h1=>thn h1 λitv s2 h2=>?_) hs;obtain⟨it,fp,tn,J,H2,e,I2,T,st2,f2,W,⟨m0,w0⟩,qCW⟩:=h2;subst e;have stat:∀{H':Hp},(∀b∈fp,H' b=none)->∀b∈fp,Qy X pins H' b:=λhn b hb=>⟨hn b hb,(f2 b hb).2⟩
 refine codeAny_forLoop_any (λn s'=>∃i σ' H',Inv X pins σ' H' s'/\tn i s'.heap/\(∀b∈fp,H' b=none)/\W i n σ' H') ?_ m0 ⟨0,σ,H2,I2,st2,λb hb=>(f2 b hb).1,w0⟩;rintro n s3 ⟨i,σ3,H3,I3,st3,fr3,w3⟩;rcases qCW i n σ3 H3 w3 with⟨stop,qn⟩|⟨go,N,hN,step⟩
 ·refine wpAny_passesOwn hp (thn (T.done X rfl rfl rfl hc i pins s3 σ3 H3 X.xe I3 (stat fr3) st3 stop) λr s4 ⟨hr,I4⟩=>?_);subst hr;exact wpAny_execs_nil ⟨σ3,H3,I4,qn⟩
 ·refine wpAny_passesOwn hp (thn (T.item X rfl rfl rfl hc i pins s3 σ3 H3 X.xe I3 (stat fr3) st3 go) λr s4 ⟨u,hr,h4⟩=>?_);subst hr;refine wpAny_passesOwn hp (thn h4 λ_ s5 ⟨x,H5,I5,r5,y5,st5,fr5⟩=>?_);have I5':=I5.pinned (stat fr5) (T.obj _ _ st5);refine wpAny_passesOwn hp (thn (hg _ s5 σ3 H5 x u _ I5' r5 (step x H5 y5)) λ_ s6 ⟨σ6,H6,I6,q6⟩=>?_);refine wpAny_passesOwn hp (thn (hb _ s6 σ6 H6 _ I6 q6) λf s7 q7=>?_);have again:∀{σ7:St}{H7:Hp},Inv X (pins++JS fp s5.heap) σ7 H7 s7->N σ7 H7->∃m,m<n/\∃i σ' H',Inv X pins σ' H' s7/\tn i s7.heap/\(∀b∈fp,H' b=none)/\W i m σ' H':=λ{σ7 H7} I7 n7=>by
   obtain⟨m',hm,w7⟩:=hN σ7 H7 n7;refine⟨m',hm,i+1,σ7,H7,I7.unpinned,T.keep _ _ _ st5 λb hb o e=>(I7.pin (b,o) (wG _ (wG _ (zy hb e)))).1,λb hb=>?_,w7⟩;obtain⟨o,e,d⟩:=T.obj _ _ st5 b hb;exact(I7.pin (b,o) (wG _ (wG _ (zy hb e)))).2.1
  cases f with
  |next=>obtain⟨σ7,H7,I7,n7⟩:=q7;exact again I7 n7
  |cont=>obtain⟨σ7,H7,I7,n7⟩:=q7;exact again I7 n7
  |brk=>obtain⟨σ7,H7,I7,q7⟩:=q7;exact⟨σ7,H7,I7.unpinned,q7⟩
  |ret v=>obtain⟨x7,σ7,H7,I7,r7,q7⟩:=q7;exact⟨x7,σ7,H7,I7.unpinned,r7,q7⟩
end
noncomputable abbrev R2:=V->V->Hp->VK->Prop
def OpR(X:Cx)(f:Value->Value->Sem Value)(r:R2):Prop:=
 ∀(pins:List (Addr×Obj)) (s:Shared) (σ:St) (H:Hp) (x y:V) (v u:Value) (Q:VK),Inv X pins σ H s->RelV x v->RelV y u->r x y H Q ->
  wpAny (model X.prog X.w) X.A (f v u) (EP X pins σ Q) X.xe s
def UnR(X:Cx)(f:Value->Sem Value)(r:V->Hp->VK->Prop):Prop:=
 ∀(pins:List (Addr×Obj)) (s:Shared) (σ:St) (H:Hp) (x:V) (v:Value) (Q:VK),Inv X pins σ H s->RelV x v->r x H Q ->
  wpAny (model X.prog X.w) X.A (f v) (EP X pins σ Q) X.xe s
def zD(X:Cx)(f:Value)(r:List V->Hp->VK->Prop):Prop:=
 ∀(pins:List (Addr×Obj)) (s:Shared) (σ:St) (H:Hp) (xs:List V) (us:List Value) (Q:VK),Inv X pins σ H s->Vals xs us->r xs H Q ->
  wpAny (model X.prog X.w) X.A (call f us) (EP X pins σ Q) X.xe s
noncomputable def tOp(r:R2)(ta tb:TE):TE:=λσ H Q=>ta σ H λx H1=>tb σ H1 λy H2=>r x y H2 Q
noncomputable def tUn(r:V->Hp->VK->Prop)(ta:TE):TE:=λσ H Q=>ta σ H λx H1=>r x H1 Q
noncomputable def rI(C:Int->Int->Prop)(g:Int->Int->V):R2:=λx y H Q=>∃i j,x=.int i/\y=.int j/\C i j/\Q (g i j) H
noncomputable def rI0(g:Int->Int->V):R2:=λx y H Q=>∃i j,x=.int i/\y=.int j/\Q (g i j) H
def rU(g:Int->V):V->Hp->VK->Prop:=λx H Q=>∃i,x=.int i/\Q (g i) H
section
variable{X:Cx}{a b c:Expr}{ta tb tc:TE}{pos:Pos}
theorem qk(ha:PE X a ta)(hb:PE X b tb){pins:List (Addr×Obj)}{s:Shared}{σ:St}{H:Hp}{R:V->V->Hp->Prop}(I:Inv X pins σ H s)
  (h:ta σ H λx H1=>tb σ H1 λy H2=>R x y H2){Q:Value->Shared->Prop}{f:Value->Value->Sem Value}
  (hf:∀v u s2 x y H2,Inv X pins σ H2 s2->RelV x v->RelV y u->R x y H2->wpAny (model X.prog X.w) X.A (f v u) Q X.xe s2):
  wpAny (model X.prog X.w) X.A (eval a X.env) (λv s₁=>wpAny (model X.prog X.w) X.A (eval b X.env) (λu s₂=>wpAny (model X.prog X.w) X.A (f v u) Q X.xe s₂) X.xe s₁) X.xe s:=by
 refine thn (ha pins s σ H _ I h) λv s1 ⟨x,H1,I1,r1,q1⟩=>?_;refine thn (hb pins s1 σ H1 _ I1 q1) λu s2 ⟨y,H2,I2,r2,q2⟩=>?_;exact hf v u s2 x y H2 I2 r1 r2 q2
theorem pe_op{op:Operator}{r:R2}(ho:OpR X (binaryOp op) r)(ha:PE X a ta)(hb:PE X b tb):PE X (.BinOp a op b pos) (tOp r ta tb):=by
 intro pins s σ H Q I h;exact wpAny_BinOp (qk ha hb I h λv u s2 x y H2 I2 rx ry q=>ho pins s2 σ H2 x y v u Q I2 rx ry q)
theorem pe_un{op:UnaryOp}{r:V->Hp->VK->Prop}(ho:UnR X (unaryOp op) r)(ha:PE X a ta):PE X (.UnaryOp op a pos) (tUn r ta):=by
 intro pins s σ H Q I h;exact UnaryOp_ (thn (ha pins s σ H _ I h) λv s1 ⟨x,H1,I1,r1,q1⟩=>ho pins s1 σ H1 x v Q I1 r1 q1)
theorem opI{f:Value->Value->Sem Value}{C:Int->Int->Prop}{g:Int->Int->Int}
  (rule:∀(i j:Int) (t u:Tok) (s:Shared) (Q:Value->Shared->Prop) (E:Value->Shared->Prop),C i j->Q (.int (g i j) s.toks) { s with toks:=s.toks+1 }->wpAny (model X.prog X.w) X.A (f (.int i t) (.int j u)) Q E s):
  OpR X f (rI C λi j=>.int (g i j)):=by
 intro pins s σ H x y v u Q I rx ry h;obtain⟨i,j,rfl,rfl,hc,q⟩:=h;obtain⟨t,rfl⟩:=rx;obtain⟨t',rfl⟩:=ry;exact rule i j t t' s _ _ hc ⟨.int (g i j),H,I.tok _,⟨_,rfl⟩,q⟩
theorem qDP{f:Value->Value->Sem Value}{g:Int->Int->Int}
  (rule:∀(i j:Int) (t u:Tok) (s:Shared) (Q:Value->Shared->Prop) (E:Value->Shared->Prop),Q (.int (g i j) s.toks) { s with toks:=s.toks+1 }->wpAny (model X.prog X.w) X.A (f (.int i t) (.int j u)) Q E s):
  OpR X f (rI0 λi j=>.int (g i j)):=by
 intro pins s σ H x y v u Q I rx ry h;obtain⟨i,j,rfl,rfl,q⟩:=h;obtain⟨t,rfl⟩:=rx;obtain⟨t',rfl⟩:=ry;exact rule i j t t' s _ _ ⟨.int (g i j),H,I.tok _,⟨_,rfl⟩,q⟩
theorem qCj{f:Value->Value->Sem Value}{g:Int->Int->Bool}
  (rule:∀(i j:Int) (t u:Tok) (s:Shared) (Q:Value->Shared->Prop) (E:Value->Shared->Prop),Q (.bool (g i j)) s->wpAny (model X.prog X.w) X.A (f (.int i t) (.int j u)) Q E s):
  OpR X f (rI0 λi j=>.bl (g i j)):=by
 intro pins s σ H x y v u Q I rx ry h;obtain⟨i,j,rfl,rfl,q⟩:=h;obtain⟨t,rfl⟩:=rx;obtain⟨t',rfl⟩:=ry;exact rule i j t t' s _ _ ⟨.bl (g i j),H,I,rfl,q⟩
def CDiv(i j:Int):Prop:=0<j/\j<1073741824
def CPow(i j:Int):Prop:=0<=j/\j<=1000000/\i.natAbs<2 ^ 64
def CMul(i j:Int):Prop:=(-(2 ^ 64)<i/\i<2 ^ 64)\/(-(2 ^ 64)<j/\j<2 ^ 64)
theorem CMul.ok{i j:Int}(h:CMul i j):IntMulOk i j:=by
 rcases h with⟨h1,h2⟩|⟨h1,h2⟩
 ·exact .of_left (intBits_le_64 h1 h2)
 ·exact .of_right (intBits_le_64 h1 h2)
theorem op_add:OpR X (binaryOp .Add) (rI0 λi j=>.int (i+j)):=qDP λ_ _ _ _ _ _ _ q=>add_int q
theorem op_sub:OpR X (binaryOp .Sub) (rI0 λi j=>.int (i-j)):=qDP λ_ _ _ _ _ _ _ q=>sub_int q
theorem op_mul:OpR X (binaryOp .Mult) (rI CMul λi j=>.int (i*j)):=opI λ_ _ _ _ _ _ _ hc q=>mul_int q hc.ok
theorem op_fdiv:OpR X (binaryOp .FloorDiv) (rI CDiv λi j=>.int (i / j)):=opI λi j _ _ _ _ _ hc q=>by
 have h1:(0:Int)<j:=hc.1;have h2:j<1073741824:=hc.2;exact floordiv_int (by omega) (by rw[Int.fdiv_eq_ediv_of_nonneg i (by omega)];exact q) (.inl (PyProof.noPylong_small (by omega)))
theorem op_mod:OpR X (binaryOp .Mod) (rI (λ_ j=>0<j) λi j=>.int (i % j)):=opI λi j _ _ _ _ _ hc q=>by
 have h1:(0:Int)<j:=hc;exact mod_int' (by omega) (by rw[Int.fmod_eq_emod_of_nonneg i (by omega)];exact q)
theorem op_modN:OpR X (binaryOp .Mod) (rI (λ_ j=>j≠0) λi j=>.int (i.fmod j)):=opI λ_ _ _ _ _ _ _ hc q=>mod_int' hc q
theorem op_pow:OpR X (binaryOp .Pow) (rI CPow λi j=>.int (i ^ j.toNat)):=opI λ_ _ _ _ _ _ _ hc q=>pow_int_small hc.1 hc.2.1 hc.2.2 q
theorem op_and:OpR X (binaryOp .BitAnd) (rI0 λi j=>.int (Builtin.bitAnd i j)):=qDP λ_ _ _ _ _ _ _ q=>and_int q
theorem unI{f:Value->Sem Value}{g:Int->Int}
  (rule:∀(i:Int) (t:Tok) (s:Shared) (Q:Value->Shared->Prop) (E:Value->Shared->Prop),Q (.int (g i) s.toks) { s with toks:=s.toks+1 }->wpAny (model X.prog X.w) X.A (f (.int i t)) Q E s):
  UnR X f (rU λi=>.int (g i)):=by
 intro pins s σ H x v Q I rx h;obtain⟨i,rfl,q⟩:=h;obtain⟨t,rfl⟩:=rx;exact rule i t s _ _ ⟨.int (g i),H,I.tok _,⟨_,rfl⟩,q⟩
theorem un_neg:UnR X (unaryOp .USub) (rU λi=>.int (-i)):=unI λ_ _ _ _ _ q=>neg_int q
end
section
variable{X:Cx}{a b c:Expr}{ta tb tc:TE}{pos:Pos}
theorem j7{pins:List (Addr×Obj)}{σ:St}{H:Hp}{s:Shared}{Q:VK}{k k':Bool}(I:Inv X pins σ H s)(q:Q (.bl k) H)(e:k=k'):EP X pins σ Q (.bool k') s:=by
 subst e;exact⟨.bl k,H,I,rfl,q⟩
theorem op_lt:OpR X (compareOp .Lt) (rI0 λi j=>.bl (decide (i<j))):=qCj λ_ _ _ _ _ _ _ q=>lt_int q
theorem op_le:OpR X (compareOp .LtE) (rI0 λi j=>.bl (decide (i<=j))):=qCj λ_ _ _ _ _ _ _ q=>le_int q
theorem op_gt:OpR X (compareOp .Gt) (rI0 λi j=>.bl (decide (j<i))):=qCj λ_ _ _ _ _ _ _ q=>gt_int q
theorem op_ge:OpR X (compareOp .GtE) (rI0 λi j=>.bl (decide (j<=i))):=qCj λ_ _ _ _ _ _ _ q=>ge_int q
theorem op_isN:OpR X (compareOp .Is) (λx y H Q=>y=.non/\Q (.bl (decide (x=.non))) H):=by
 intro pins s σ H x y v u Q I rx ry h;obtain⟨rfl,q⟩:=h;cases ry;refine is_none_gen (j7 I q ?_);cases x<;>first
  | (cases rx;rfl)
  | (obtain⟨t,rfl⟩:=rx;rfl)
theorem op_notN:OpR X (compareOp .IsNot) (λx y H Q=>y=.non/\Q (.bl (!decide (x=.non))) H):=by
 intro pins s σ H x y v u Q I rx ry h;obtain⟨rfl,q⟩:=h;cases ry;refine isnot_none_gen (j7 I q ?_);cases x<;>first
  | (cases rx;rfl)
  | (obtain⟨t,rfl⟩:=rx;rfl)
theorem OpR.or{f:Value->Value->Sem Value}{r r':R2}(h:OpR X f r)(h':OpR X f r'):OpR X f (λx y H Q=>r x y H Q\/r' x y H Q):=by
 intro pins s σ H x y v u Q I rx ry q;rcases q with q|q
 ·exact h pins s σ H x y v u Q I rx ry q
 ·exact h' pins s σ H x y v u Q I rx ry q
theorem pe_cmpR{op:CmpOp}{r:R2}(ho:OpR X (compareOp op) r)(ha:PE X a ta)(hb:PE X b tb)(hm:behindInMarks op b=false):PE X (.Compare a [op] [b] pos) (tOp r ta tb):=by
 intro pins s σ H Q I h;exact wpAny_Compare1 (qk ha hb I h λv u s2 x y H2 I2 rx ry q=>ho pins s2 σ H2 x y v u Q I2 rx ry q) hm
noncomputable def qA3(t:TE):TT:=λσ H Q=>t σ H λx H'=>∃k,x=.bl k/\Q k H'
theorem pt_cmpR{op:CmpOp}{r:R2}(ho:OpR X (compareOp op) r)(ha:PE X a ta)(hb:PE X b tb)(hm:behindInMarks op b=false):PT X (.Compare a [op] [b] pos) (qA3 (tOp r ta tb)):=by
 intro pins s σ H Q I h;refine wpAny_isTrue_Compare1 (thn (ha pins s σ H _ I h) λv s1 ⟨x,H1,I1,r1,q1⟩=>thn (hb pins s1 σ H1 _ I1 q1) λu s2 ⟨y,H2,I2,r2,q2⟩=>
  thn (ho pins s2 σ H2 x y v u _ I2 r1 r2 q2) λc s3 ⟨z,H3,I3,r3,k,e,q3⟩=>?_) hm
 subst e;cases r3;exact va ⟨H3,I3,q3⟩
noncomputable def tChain(r r':R2)(ta tb tc:TE):TE:=λσ H Q=>ta σ H λx H1=>tb σ H1 λy H2=>r x y H2 λz H3=>∃k,z=.bl k/\
 (if k=true then tc σ H3 λw' H4=>r' y w' H4 Q else Q (.bl false) H3)
theorem pe_chain{op op':CmpOp}{r r':R2}(ho:OpR X (compareOp op) r)(ho':OpR X (compareOp op') r')(ha:PE X a ta)(hb:PE X b tb)(hc:PE X c tc)
  (hm:lastMarks [op,op'] [b,c]=false:=by with_unfolding_all rfl):PE X (.Compare a [op,op'] [b,c] pos) (tChain r r' ta tb tc):=by
 intro pins s σ H Q I h;refine Compare_chain (thn (ha pins s σ H _ I h) λv s1 ⟨x,H1,I1,r1,q1⟩=>chain_link (thn (hb pins s1 σ H1 _ I1 q1) λu s2 ⟨y,H2,I2,r2,q2⟩=>
  thn (ho pins s2 σ H2 x y v u _ I2 r1 r2 q2) λd s3 ⟨z,H3,I3,r3,k,e,q3⟩=>?_)) hm
 subst e;cases r3;refine va ?_;cases k with
 |false=>exact ite_ff ⟨.bl false,H3,I3,rfl,q3⟩
 |true=>exact ite_tt (chain_last (thn (hc pins s3 σ H3 _ I3 q3) λw' s4 ⟨z',H4,I4,r4,q4⟩=>ho' pins s4 σ H4 y z' u w' Q I4 r2 r4 q4))
theorem pt_chain{op op':CmpOp}{r r':R2}(ho:OpR X (compareOp op) r)(ho':OpR X (compareOp op') r')(ha:PE X a ta)(hb:PE X b tb)(hc:PE X c tc)
  (hm:lastMarks [op,op'] [b,c]=false:=by with_unfolding_all rfl):PT X (.Compare a [op,op'] [b,c] pos) (qA3 (tChain r r' ta tb tc)):=by
 intro pins s σ H Q I h;refine isTrue_chain (thn (ha pins s σ H _ I h) λv s1 ⟨x,H1,I1,r1,q1⟩=>test_link (thn (hb pins s1 σ H1 _ I1 q1) λu s2 ⟨y,H2,I2,r2,q2⟩=>
  thn (ho pins s2 σ H2 x y v u _ I2 r1 r2 q2) λd s3 ⟨z,H3,I3,r3,k,e,q3⟩=>?_)) hm
 subst e;cases r3;refine va ?_;cases k with
 |false=>
  obtain⟨k',e',q'⟩:=q3;cases e';exact ite_ff ⟨H3,I3,q'⟩
 |true=>
  refine ite_tt (test_last (thn (hc pins s3 σ H3 _ I3 q3) λw' s4 ⟨z',H4,I4,r4,q4⟩=>thn (ho' pins s4 σ H4 y z' u w' _ I4 r2 r4 q4) λd' s5 ⟨z2,H5,I5,r5,k2,e2,q5⟩=>?_));subst e2;cases r5;exact va ⟨H5,I5,q5⟩
theorem C7:(sizeLine:Nat)<2 ^ 63:=by rw[sizeLine_eq];decide
theorem vals1{x:V}{us:List Value}(r:Vals [x] us):∃u,us=[u]/\RelV x u:=by
 cases r with
 |cons r1 r2=>cases r2;exact⟨_,rfl,r1⟩
theorem vals2{x y:V}{us:List Value}(r:Vals [x,y] us):∃u w',us=[u,w']/\RelV x u/\RelV y w':=by
 cases r with
 |cons r1 r2=>
  cases r2 with
  |cons r3 r4=>cases r4;exact⟨_,_,rfl,r1,r3⟩
theorem call_max2(hc:X.calm=true):zD X (.builtin "max") (λxs H Q=>∃i j,xs=[.int i,.int j]/\Q (.int (if j>i then j else i)) H):=by
 intro pins s σ H xs us Q I r h;obtain⟨i,j,rfl,q⟩:=h;obtain⟨u,w',rfl,⟨t,rfl⟩,⟨t',rfl⟩⟩:=vals2 r;refine max_two_ints (I.ok.hd hc) λh' tk k=>⟨_,H,I.kept k,?_,q⟩
 by_cases hj:j>i
 ·rw[if_pos hj,if_pos hj];exact⟨_,rfl⟩
 ·rw[if_neg hj,if_neg hj];exact⟨_,rfl⟩
theorem call_min2(hc:X.calm=true):zD X (.builtin "min") (λxs H Q=>∃i j,xs=[.int i,.int j]/\Q (.int (if j<i then j else i)) H):=by
 intro pins s σ H xs us Q I r h;obtain⟨i,j,rfl,q⟩:=h;obtain⟨u,w',rfl,⟨t,rfl⟩,⟨t',rfl⟩⟩:=vals2 r;refine min_two_ints (I.ok.hd hc) λh' tk k=>⟨_,H,I.kept k,?_,q⟩
 by_cases hj:j<i
 ·rw[if_pos hj,if_pos hj];exact⟨_,rfl⟩
 ·rw[if_neg hj,if_neg hj];exact⟨_,rfl⟩
theorem call_int1:zD X (.type "int") (λxs H Q=>(∃i,xs=[.int i]/\Q (.int i) H)\/∃k,xs=[.bl k]/\Q (.int (if k then 1 else 0)) H):=by
 intro pins s σ H xs us Q I r h;rcases h with⟨i,rfl,q⟩|⟨k,rfl,q⟩
 ·obtain⟨u,rfl,t,rfl⟩:=vals1 r;exact call_int_int ⟨.int i,H,I,⟨_,rfl⟩,q⟩
 ·obtain⟨u,rfl,r1⟩:=vals1 r;cases r1;exact call_int_bool ⟨.int (if k then 1 else 0),H,I.tok _,⟨_,rfl⟩,q⟩
end
structure Room(k:Nat)(A:Around):Prop where
 hd:A.handled=none
 dp:A.depth+3*k+5<recursionLimit
 un:A.units+16*k+200<cLine
 gd:A.guards=some []
theorem Room.mono{j k:Nat}{A:Around}(r:Room k A)(h:j<=k):Room j A:=⟨r.hd,by have:=r.dp;omega,by have:=r.un;omega,r.gd⟩
theorem Room.deeper{k:Nat}{A:Around}(r:Room (k+1) A)(env:Env):Room k (A.deeper env):=
 ⟨r.hd,by have:=r.dp;show A.depth+1+3*k+5<_;omega,by have:=r.un;show A.units+3+16*k+200<_;omega,r.gd⟩
theorem Room.in1{k:Nat}{A:Around}(r:Room (k+1) A):Room k A.in1:=
 ⟨r.hd,by have:=r.dp;show A.depth+3*k+5<_;omega,by have:=r.un;show A.units+1+16*k+200<_;omega,r.gd⟩
theorem Room.depth{k:Nat}{A:Around}(r:Room k A):A.depth<recursionLimit:=by have:=r.dp;omega
theorem Room.units{k:Nat}{A:Around}(r:Room k A):A.units+64<cLine:=by have:=r.un;omega
noncomputable def qET:TA:=λ_ H Q=>Q [] H
noncomputable def qC7(ta:TE)(tr:TA):TA:=λσ H Q=>ta σ H λx H1=>tr σ H1 λxs H2=>Q (x::xs) H2
section
variable{X:Cx}{e:Expr}{es:List Expr}{te:TE}{t:TA}{pos:Pos}
theorem pa_nil:PA X [] qET:=λ_ _ _ _ H Q I h=>Calls.spliced_nil ⟨[],H,I,.nil,h⟩
theorem pa_cons(ha:PE X e te)(hr:PA X es t)(hs:starEach (e::es) X.env=(false,eval e X.env)::starEach es X.env:=by rfl):PA X (e::es) (qC7 te t):=by
 intro pos pins s σ H Q I h;rw[hs];show wpAny _ _ (spliced ((false,eval e X.env)::backTo pos (starEach es X.env))) _ _ s;refine Calls.spliced_cons (thn (ha pins s σ H _ I h) λu s1 ⟨x,H1,I1,r1,q1⟩=>?_);exact thn (hr pos pins s1 σ H1 _ I1 q1) λus s2 ⟨xs,H2,I2,r2,q2⟩=>⟨x::xs,H2,I2,.cons r1 r2,q2⟩
noncomputable def qE8(t:TA):TE:=λσ H Q=>t σ H λxs H1=>xs.length<=sizeLine/\∀p,H1 p=none->Q (.ref p) (upd H1 p (.tup xs))
noncomputable def qFt(t:TA):TE:=λσ H Q=>t σ H λxs H1=>xs.length<=sizeLine/\∀p,H1 p=none->Q (.ref p) (upd H1 p (.lst xs))
theorem pe_tup {x1}(h:PA X es t):PE X (.Tuple es x1 pos) (qE8 t):=by
 intro pins s σ H Q I hq;refine wpAny_Tuple_spliced (thn (h pos pins s σ H _ I hq) λus s1 ⟨xs,H1,I1,r,z,q⟩=>⟨by rw[<-r.length];exact z,?_⟩);have hf:H1 s1.heap.objs.size=none:=I1.hok.fresh (Nat.le_refl _);refine⟨.ref s1.heap.objs.size,upd H1 s1.heap.objs.size (.tup xs),I1.laid (t':=s1.toks) (λb u e=>Heap.get?_push_of_some _ e) (Nat.le_refl _) ?_,rfl,q _ hf⟩;exact⟨z,us,r,⟨_,Heap.get?_push_size _ rfl,rfl,_,rfl⟩⟩
theorem pe_lst(h:PA X es t):PE X (.List es pos) (qFt t):=by
 intro pins s σ H Q I hq;refine wpAny_List_spliced (thn (h pos pins s σ H _ I hq) λus s1 ⟨xs,H1,I1,r,z,q⟩=>⟨by rw[<-r.length];exact z,?_⟩);have hf:H1 s1.heap.objs.size=none:=I1.hok.fresh (Nat.le_refl _);refine⟨.ref s1.heap.objs.size,upd H1 s1.heap.objs.size (.lst xs),I1.laid (t':=s1.toks) (λb u e=>Heap.get?_push_of_some _ e) (Nat.le_refl _) ?_,rfl,q _ hf⟩;exact⟨z,us,0,r,Heap.get?_push_size _ rfl⟩
end
noncomputable abbrev Sp:=List V->Hp->VK->XK->Prop
noncomputable abbrev CXT:=List Env->Hp->Shared->XK->Value->Shared->Prop
structure Env0(P:Program)(w:World)(K:PySem.W.Frag)(mg:Str->Option Value)(base:Heap)(A:Around)(outer:List Env)(s:Shared)(H:Hp):Prop where
 frames:A.frames=some outer
 mod:Mod K mg base
 bs:∀b o,base.get? b=some o->s.heap.get? b=some o/\H b=none
 bsz:base.objs.size<=s.heap.objs.size
 funs:s.heap.FunFrames base outer
 frf:∀b∈frs outer,H b=none
 hok:HOk P w H s.heap
 bare:AllBare s.gens
def CE(outer:List Env)(P:Program)(w:World)(H:Hp)(s:Shared)(Q:VK)(u:Value)(s':Shared):Prop:=
 ∃v H',s'.os=s.os/\AllBare s'.gens/\Un (frs outer) [] H H' s.heap s'.heap/\HOk P w H' s'.heap/\RelV v u/\Q v H'
def CR(CX:CXT)(outer:List Env)(P:Program)(w:World)(H:Hp)(s:Shared)(Q:VK)(E:XK)(r:Result)(s':Shared):Prop:=
 match r with
 | .ok (.ret u)=>CE outer P w H s Q u s'
 | .ok _=>False
 | .error e=>CX outer H s E e s'
structure FnOk(P:Program)(w:World)(K:PySem.W.Frag)(mg:Str->Option Value)(base:Heap)(CX:CXT)(k:Nat)(f:Addr)(fd:FuncData)(ps:List Str)(sp:Sp):Prop where
 len:∀vs H Q E,sp vs H Q E->vs.length=ps.length
 run:∀(A:Around) (outer:List Env) (s:Shared) (H:Hp) (args:Args) (us:List Value) (vs:List V) (Q:VK) (E:XK),Room k A->Env0 P w K mg base A outer s H->BindsTo s fd args (ps.zip us)->Vals vs us->sp vs H Q E ->
  codeAny (model P w) A (.call (.ref f) args) (CR CX outer P w H s Q E) s
theorem Env0.in1{P:Program}{w:World}{K:PySem.W.Frag}{mg:Str->Option Value}{base:Heap}{A:Around}{outer:List Env}{s:Shared}{H:Hp}(e:Env0 P w K mg base A outer s H):
  Env0 P w K mg base A.in1 outer s H:=⟨e.frames,e.mod,e.bs,e.bsz,e.funs,e.frf,e.hok,e.bare⟩
section
variable{X:Cx}{pins:List (Addr×Obj)}{σ:St}{H:Hp}{s s':Shared}
theorem Inv.env0(I:Inv X pins σ H s):Env0 X.prog X.w X.K X.mg X.base X.A X.stack s H:=
 ⟨I.ok.frames,I.ok.mod,I.bs,Nat.le_trans I.ok.bsz I.sz,I.stack,I.stkFree,I.hok,I.bare⟩
theorem Inv.after{Q:VK}{u:Value}(I:Inv X pins σ H s)(h:CE X.stack X.prog X.w H s Q u s'):EP X pins σ Q u s':=by
 obtain⟨v,H',os,bare,un,hok,r,q⟩:=h;obtain⟨hh,g,d,t,os'⟩:=s';obtain rfl:os'=s.os:=os;exact⟨v,H',I.call (h':=hh) (g':=g) (d':=d) (t':=t) (ch:=[]) un hok bare (λb z=>absurd z (by simp)),r,q⟩
end
noncomputable def tCall(sp:Sp)(dvs:List V)(E:XK)(t:TA):TE:=λσ H Q=>t σ H λvs H1=>sp (vs++dvs) H1 Q E
def Binds(K:PySem.W.Frag)(fd:FuncData)(ps:List Str)(ds:List Value):Prop:=
 ∀(s:Shared) (us:List Value),K.In s.heap->(us++ds).length=ps.length->BindsTo s fd ⟨us,[]⟩ (ps.zip (us++ds))
theorem Binds.all{K:PySem.W.Frag}{fd:FuncData}{ps:List Str}(h:∀us:List Value,us.length=ps.length->bindArgs fd ⟨us,[]⟩=pure (ps.zip us)):Binds K fd ps []:=λs us _ hl=>by
 rw[List.append_nil]at hl ⊢;exact .of_eq (h us hl)
def E3(CX:CXT)(X:Cx)(E:XK):Prop:=∀(pins:List (Addr×Obj)) (σ:St) (H:Hp) (s:Shared) (e:Value) (s':Shared),Inv X pins σ H s->CX X.stack H s E e s'->X.xe e s'
section
variable{X:Cx}{CX:CXT}{k:Nat}{f C:Addr}{fd:FuncData}{ps:List Str}{sp:Sp}{dvs:List V}{ds:List Value}{E:XK}{x m:Str}{p pos apos:Pos}{e o:Expr}{es:List Expr}{ta:TE}{t:TA}
theorem i8{pins:List (Addr×Obj)}{σ:St}{H:Hp}{s:Shared}{Q:VK}{us:List Value}{vs:List V}(F:FnOk X.prog X.w X.K X.mg X.base CX k f fd ps sp)(hr:Room k X.A)(hb:Binds X.K fd ps ds)(hd:Vals dvs ds)(hx:E3 CX X E)
  (I:Inv X pins σ H s) (r:Vals vs us) (h:sp (vs++dvs) H Q E):wpAny (model X.prog X.w) X.A (call (.ref f) us) (EP X pins σ Q) X.xe s:=by
 have r2:Vals (vs++dvs) (us++ds):=r.append hd;have hl:(us++ds).length=ps.length:=by rw[<-r2.length];exact F.len _ _ _ _ h
 refine wpAny_call (codeAny_mono (F.run X.A X.stack s H ⟨us,[]⟩ (us++ds) (vs++dvs) Q E hr I.env0 (hb s us I.kIn hl) r2 h) λr s' hq=>?_);cases r with
 |error e=>exact hx pins σ H s e s' I hq
 |ok fl=>
  cases fl with
  |ret u=>exact I.after hq
  |next=>exact False.elim hq
  |brk=>exact False.elim hq
  |cont=>exact False.elim hq
theorem pe_call(F:FnOk X.prog X.w X.K X.mg X.base CX k f fd ps sp)(hr:Room k X.A)(hg:Gl X x)(hm:X.mg x=some (.ref f))(hk:PySem.W.keepIn X.K (.ref f)=true)(hb:Binds X.K fd ps ds)(hd:Vals dvs ds)(hx:E3 CX X E)
  (ha:PA X (e::es) t) (hdb:(x==("__debug__":Str))=false:=by decide) (he:starEach (e::es) X.env=(false,eval e X.env)::starEach es X.env:=by rfl) (hpl:(backTo pos (starEach es X.env)).any (·.1)=false:=by rfl):
  PE X (.Call (.Name x p) (e::es) [] pos) (tCall sp dvs E t):=by
 intro pins s σ H Q I h;refine wpAny_Call_Name_kw (Ju I hg hm ?_ hdb);refine PySem.W.callWith_K (h₀:=X.base) I.ok.mod.kin hk (thn (ha pos pins s σ H _ I h) λus s1 ⟨vs,H1,I1,r,q⟩=>⟨I1.kIn,?_⟩) he hpl;exact i8 F hr hb hd hx I1 r q
theorem pe_call0(F:FnOk X.prog X.w X.K X.mg X.base CX k f fd ps sp)(hr:Room k X.A)(hg:Gl X x)(hm:X.mg x=some (.ref f))(hk:PySem.W.keepIn X.K (.ref f)=true)(hb:Binds X.K fd ps ds)(hd:Vals dvs ds)(hx:E3 CX X E)
  (hdb:(x==("__debug__":Str))=false:=by decide):PE X (.Call (.Name x p) [] [] pos) (tCall sp dvs E qET):=by
 intro pins s σ H Q I h;refine wpAny_Call_Name_kw (Ju I hg hm ?_ hdb);exact PySem.W.callWith_K0 I.kIn hk (i8 (us:=[]) F hr hb hd hx I .nil h)
end
structure qr(N P:List Str)(sc:Scope):Prop where
 kind:sc.kind=.function
 co:sc.isCoroutine=false
 gen:sc.isGenerator=false
 nd:N.Nodup
 pre:N.take P.length=P
 par:∀x∈P,sc.names.lookup x=some .local\/sc.names.lookup x=some .cell
 nofree:∀y∈sc.names,y.2≠.free
theorem Jo{kindOf:Str->Option NameKind}{x:Str}:∀{binds:List (Str×Value)}{m:Str->Option Value},(∀v,(x,v)∉binds)->bindL kindOf binds m x=m x
 | [],_,_=>rfl
 | (n,v)::r,m,h=>by
  unfold bindL;rw[Jo λw hw=>h w (List.mem_cons_of_mem _ hw)];split
  ·have:x≠n:=by rintro rfl;exact h v List.mem_cons_self
   simp[this]
  ·rfl
theorem Jc{kindOf:Str->Option NameKind}{x:Str}:∀{binds:List (Str×Value)}{m:Str->Option Value},(∀v,(x,v)∉binds)->bindC kindOf binds m x=m x
 | [],_,_=>rfl
 | (n,v)::r,m,h=>by
  unfold bindC;rw[Jc λw hw=>h w (List.mem_cons_of_mem _ hw)];split
  ·rfl
  ·have:x≠n:=by rintro rfl;exact h v List.mem_cons_self
   simp[this]
theorem Jf{kindOf:Str->Option NameKind}{x:Str}{v:Value}:∀{P:List Str}{vs:List Value}{i:Nat}{m:Str->Option Value},P.Nodup->P[i]?=some x->vs[i]?=some v->kindOf x=some .local ->
  bindL kindOf (P.zip vs) m x=some v
 | [],_,_,_,_,h,_,_=>by simp at h
 |_::_,[],_,_,_,_,h,_=>by simp at h
 |p::P,w::vs,0,m,nd,h1,h2,hk=>by
  simp at h1 h2;subst h1;subst h2;show bindL kindOf ((p,w)::P.zip vs) m p=_;unfold bindL;rw[Jo λv hv=>(List.nodup_cons.mp nd).1 (List.of_mem_zip hv).1,if_pos hk];simp
 |p::P,w::vs,i+1,m,nd,h1,h2,hk=>by
  show bindL kindOf ((p,w)::P.zip vs) m x=_;unfold bindL;exact Jf (i:=i) (List.nodup_cons.mp nd).2 (by simpa using h1) (by simpa using h2) hk
theorem Jl{kindOf:Str->Option NameKind}{x:Str}{v:Value}:∀{P:List Str}{vs:List Value}{i:Nat}{m:Str->Option Value},P.Nodup->P[i]?=some x->vs[i]?=some v->kindOf x≠some .local ->
  bindC kindOf (P.zip vs) m x=some v
 | [],_,_,_,_,h,_,_=>by simp at h
 |_::_,[],_,_,_,_,h,_=>by simp at h
 |p::P,w::vs,0,m,nd,h1,h2,hk=>by
  simp at h1 h2;subst h1;subst h2;show bindC kindOf ((p,w)::P.zip vs) m p=_;unfold bindC;rw[Jc λv hv=>(List.nodup_cons.mp nd).1 (List.of_mem_zip hv).1,if_neg hk];simp
 |p::P,w::vs,i+1,m,nd,h1,h2,hk=>by
  show bindC kindOf ((p,w)::P.zip vs) m x=_;unfold bindC;exact Jl (i:=i) (List.nodup_cons.mp nd).2 (by simpa using h1) (by simpa using h2) hk
noncomputable def start(N:List Str)(vs:List V):St:=vs.map some++List.replicate (N.length-vs.length) none
noncomputable def cxOf(CX:CXT)(P:Program)(w:World)(K:PySem.W.Frag)(mg:Str->Option Value)(base:Heap)(N:List Str)(qual:Str)(scope:Scope)(f:Addr)(cd:Value)(A:Around)(outer:List Env)(s:Shared)(H:Hp)(E:XK):Cx where
 prog:=P
 w:=w
 K:=K
 mg:=mg
 base:=base
 A:=A.deeper (envOfC qual scope s.heap.objs.size f cd)
 N:=N
 s₀:=s
 H₀:=H
 env:=envOfC qual scope s.heap.objs.size f cd
 outer:=outer
 stack:=envOfC qual scope s.heap.objs.size f cd::outer
 ex:=[]
 calm:=true
 fn:=λ_=>true
 pn:=[]
 xe:=λe s'=>wpAny (model P w) (A.deeper (envOfC qual scope s.heap.objs.size f cd)) (leaving (envOfC qual scope s.heap.objs.size f cd) e) (λ_ s''=>CX outer H s E e s'') (λe' s''=>CX outer H s E e' s'') s'
theorem J6{sc:Scope}{n:Nat}{x:Str}(h:sc.names.lookup x=some .cell):∃c,(cellsFrom n sc.names []).lookup x=some c:=by
 have q:=PySem.W.cellsFrom_some sc.names n [] (.inl h);exact Option.isSome_iff_exists.mp q
theorem U5{CX:CXT}{P:Program}{w:World}{K:PySem.W.Frag}{mg:Str->Option Value}{base:Heap}{N ps:List Str}{qual:Str}{scope:Scope}{f:Addr}{cd:Value}{A:Around}{outer:List Env}{s s1:Shared}{H:Hp}{E:XK}{us:List Value}{vs:List V}
  (S:qr N ps scope) (hd:A.handled=none) (e0:Env0 P w K mg base A outer s H) (hl:vs.length=ps.length) (r:Vals vs us)
  (x:InCallC s s.heap.objs.size (bindL (envOfC qual scope s.heap.objs.size f cd).kindOf (ps.zip us) λ_=>none) (cellsFrom (s.heap.objs.size+1) scope.names []) (bindC (envOfC qual scope s.heap.objs.size f cd).kindOf (ps.zip us) λ_=>none) s1):
  Inv (cxOf CX P w K mg base N qual scope f cd A outer s H E) [] (start N vs) H s1:=by
 have hpl:ps.length<=N.length:=by have:=congrArg List.length S.pre;rw[wO]at this;omega
 obtain⟨h1,tk,rfl,hk⟩:=x.done;have noA:∀b:Addr,b∉(cxOf CX P w K mg base N qual scope f cd A outer s H E).ex:=λb z=>absurd (show b∈([]:List Addr) from z) (by simp);refine⟨⟨e0.mod,S.kind,rfl,rfl,Nat.le_refl _,λy z c h1 h2=>?_,λy hy=>?_,λy c _ h=>?_,λ_=>hd,Around.frames_deeper e0.frames,.inr ⟨rfl,rfl⟩,λb z=>absurd z (noA b),e0.bs,e0.bsz,λb _ _=>noA b,λb z=>absurd z (noA b),e0.funs,e0.frf⟩,
  rfl,e0.bare,Un.kept hk,⟨_,x.toInCall.ns,λi y v h1 h2 h3=>?_⟩,λy c h=>⟨_,x.cell y c h⟩,e0.hok.fresh (Nat.le_refl _),λy c h=>?_,λp hp=>absurd (show p∈([]:List (Addr×Obj)) from hp) (by simp),e0.hok.kept hk,?_⟩
 ·exact name_of_addr x.apart (PySem.mem_of_lookup h1) (PySem.mem_of_lookup h2)
 ·have hy:scope.names.lookup y=some .cell\/scope.names.lookup y=some .free:=hy;rcases hy with hy|hy
  ·exact J6 hy
  ·exact absurd rfl (S.nofree _ (PySem.mem_of_lookup hy))
 ·exact wj (x.above y c (PySem.mem_of_lookup h))
 ·have hi:i<vs.length:=by
   unfold start at h2;by_cases hi:i<vs.length
   ·exact hi
   ·rw[List.getElem?_append_right (by simpa using hi)]at h2;rw[List.getElem?_replicate]at h2;split at h2<;>cases h2
  have ha:vs[i]?=some v:=by
   unfold start at h2;rw[List.getElem?_append_left (by simpa using hi),wP]at h2;cases e:vs[i]? with
   |none=>rw[e]at h2;cases h2
   |some a=>rw[e]at h2;cases h2;rfl
  obtain⟨u,hu,rv⟩:=r.get ha;have hp:ps[i]?=some y:=by
   rw[<-S.pre,wM (by omega)];exact h1
  have ndP:ps.Nodup:=by rw[<-S.pre];exact S.nd.sublist (List.take_sublist _ _)
  refine⟨u,rv,?_⟩;rcases S.par y (List.mem_of_getElem? hp) with k|k
  ·exact .inl ⟨k,Jf ndP hp hu k⟩
  ·obtain⟨c,e⟩:=J6 (n:=s.heap.objs.size+1) k;refine .inr ⟨.inl k,c,e,?_⟩;have q:=x.cell y c e;rw[Jl ndP hp hu (by show scope.names.lookup y≠_;rw[k];decide)]at q;exact q
 ·exact e0.hok.fresh (wj (x.above y c (PySem.mem_of_lookup h)))
 ·unfold start;show _=N.length;rw[List.length_append,wR,List.length_replicate];omega
theorem qCx{CX:CXT}{P:Program}{w:World}{K:PySem.W.Frag}{mg:Str->Option Value}{base:Heap}{k:Nat}{f:Addr}{name qual:Str}{params:Arguments}{body:List Stmt}{scope:Scope}{dV kV doc pm cdv ct oc:Value}{an od:Option Addr}
  {osl:Array (Option Value)}{N ps:List Str}{sp:Sp}(lk:K.lookup f=some ⟨oc,od,.func (PySem.W.fnOf name qual params body scope dV kV doc pm an cdv ct),osl⟩) (hcd:PySem.W.codeIn K cdv qual=true) (S:qr N ps scope)
  (len:∀vs H Q E,sp vs H Q E->vs.length=ps.length)
  (hbody:∀(A:Around) (outer:List Env) (s:Shared) (H:Hp) (vs:List V) (Q:VK) (E:XK),Room k (A.deeper (envOfC qual scope s.heap.objs.size f cdv))->sp vs H Q E ->
   ∃t,PSs (cxOf CX P w K mg base N qual scope f cdv A outer s H E) body t/\t { nx:=λ_ H'=>Q .non H',rt:=Q } (start N vs) H):
  FnOk P w K mg base CX (k+1) f (PySem.W.fnOf name qual params body scope dV kV doc pm an cdv ct) ps sp:=by
 refine⟨len,λA outer s H args us vs Q E hr e0 hb r hsp=>?_⟩;have hl:=len _ _ _ _ hsp;have KX:K.In s.heap:=e0.mod.kin.keeps λb o e=>(e0.bs b o e).1;have lim:s.heap.NoLimit:=e0.mod.nolimit.keeps λb o e=>(e0.bs b o e).1;have hkind:∀y∈ps.zip us,scope.names.lookup y.1=some .local\/(scope.names.lookup y.1=some .cell/\((cellsFrom (s.heap.objs.size+1) scope.names []).lookup y.1).isSome=true):=λ⟨n,v⟩ hy=>by
  rcases S.par n (List.of_mem_zip hy).1 with q|q
  ·exact .inl q
  ·exact .inr ⟨q,PySem.W.cellsFrom_some _ _ _ (.inl q)⟩
 refine codeAny_call_function hr.depth (KX _ _ lk) rfl S.co S.gen rfl (PySem.W.codeRec_of KX hcd) (hb _ _ _ _ ?_);refine wpAny_newFunctionEnv_cells S.kind hkind λenv he s1 x=>?_;subst he;refine⟨lim.keeps x.toInCall.keep,codeAny_func ?_⟩;obtain⟨t,ht,hq⟩:=hbody A outer s H vs Q E (hr.deeper _) hsp;have I:Inv (cxOf CX P w K mg base N qual scope f cdv A outer s H E) [] (start N vs) H s1:=U5 S hr.hd e0 hl r x;refine wpAny_mono (ht [] s1 (start N vs) H _ I hq) (λfl s' hs=>?_) λe s' hs=>hs;have fin:∀{σ':St}{H':Hp}{v:V}{u:Value},Inv (cxOf CX P w K mg base N qual scope f cdv A outer s H E) [] σ' H' s'->RelV v u->Q v H'->CE outer P w H s Q u s':=
  λ{σ' H' v u} J rv q=>⟨v,H',J.os,J.bare,J.base,J.hok,rv,q⟩
 cases fl with
 |ret u=>
  obtain⟨v,σ',H',J,rv,q⟩:=hs;exact fin J rv q
 |next=>
  obtain⟨σ',H',J,q⟩:=hs;exact fin (v:=V.non) (u:=Value.none) J rfl q
 |brk=>
  obtain⟨_,_,_,q⟩:=hs;exact False.elim q
 |cont=>
  obtain⟨_,_,_,q⟩:=hs;exact False.elim q
section
variable{X:Cx}{x:Str}{p pos:Pos}{e:Expr}{es:List Expr}{t:TA}{id T:String}{r:List V->Hp->VK->Prop}
noncomputable def tCB(r:List V->Hp->VK->Prop)(t:TA):TE:=λσ H Q=>t σ H λvs H1=>r vs H1 Q
theorem pe_callB(hc:zD X (.builtin id) r)(hg:Gl X x)(hm:X.mg x=none)(hv:bootBuiltins x=some (.builtin id))(ha:PA X (e::es) t)(hn:x≠"__name__":=by decide)(hdb:(x==("__debug__":Str))=false:=by decide)
  (he:starEach (e::es) X.env=(false,eval e X.env)::starEach es X.env:=by rfl) (hpl:(backTo pos (starEach es X.env)).any (·.1)=false:=by rfl):PE X (.Call (.Name x p) (e::es) [] pos) (tCB r t):=by
 intro pins s σ H Q I h;refine wpAny_Call_Name_kw (ld_blt I hg hm hv ?_ hn hdb);exact PyProof.Rows.callWith_builtin1 (thn (ha pos pins s σ H _ I h) λus s1 ⟨vs,H1,I1,r1,q1⟩=>hc pins s1 σ H1 vs us Q I1 r1 q1) he hpl
theorem pe_callTy(hc:zD X (.type T) r)(hg:Gl X x)(hm:X.mg x=none)(hv:bootBuiltins x=some (.type T))(ha:PA X (e::es) t)(hn:x≠"__name__":=by decide)(hdb:(x==("__debug__":Str))=false:=by decide)
  (he:starEach (e::es) X.env=(false,eval e X.env)::starEach es X.env:=by rfl) (hpl:(backTo pos (starEach es X.env)).any (·.1)=false:=by rfl):PE X (.Call (.Name x p) (e::es) [] pos) (tCB r t):=by
 intro pins s σ H Q I h;refine wpAny_Call_Name_kw (ld_blt I hg hm hv ?_ hn hdb);exact PyProof.Rows.callWith_type1 (thn (ha pos pins s σ H _ I h) λus s1 ⟨vs,H1,I1,r1,q1⟩=>hc pins s1 σ H1 vs us Q I1 r1 q1) he hpl
end
end L2
namespace HT
open PySem PyProof.Rows
section
variable{prog:Program}{w:World}{A:Around}{E:Value->Shared->Prop}{s:Shared}
theorem cat_tup{t b:Addr}{vs ws:List Value}{Q:Value->Shared->Prop}(ht:IsTup s.heap t vs.toArray)(hb:IsTup s.heap b ws.toArray)(hv:vs≠[])
  (h1:ws=[]->Q (.ref t) s) (h2:ws≠[]->Q (.ref s.heap.objs.size) { s with heap:=s.heap.push { cls:=.type "tuple",data:=.seq (vs++ws).toArray } })
  (hsz:vs.length+ws.length<=sizeLine):wpAny (model prog w) A (binaryOp .Add (.ref t) (.ref b)) Q E s:=by
 obtain⟨⟨cls,dd,data,sl⟩,ho,hc,n,hd⟩:=id ht;obtain⟨⟨cls2,dd2,data2,sl2⟩,ho2,hc2,n2,hd2⟩:=id hb;simp only at hc hd hc2 hd2;subst hc hd hc2 hd2;have e:vs.toArray++ws.toArray=(vs++ws).toArray:=by simp
 by_cases hw:ws=[]
 ·exact concat_meets ⟨_,ho,rfl⟩ ⟨_,ho2,rfl⟩ noFill_tuple_add seq_tuple_add PySem.F.slot_tuple_add PySem.F.entry_tuple_add (PySem.F.args_tuple_add_2 _ _)
   (tuple_addW1 t b vs.toArray ws.toArray n n2 dd dd2 sl sl2 (by simpa using hv) (by simp[hw])) ⟨ho,ho2,h1 hw⟩
 ·refine concat_meets ⟨_,ho,rfl⟩ ⟨_,ho2,rfl⟩ noFill_tuple_add seq_tuple_add PySem.F.slot_tuple_add PySem.F.entry_tuple_add (PySem.F.args_tuple_add_2 _ _)
   (tuple_addW2 t b vs.toArray ws.toArray n n2 dd dd2 sl sl2 (by simpa using hv) (by simpa using hw) (by rw[wC,wC];exact hsz)) ⟨ho,ho2,?_⟩
  rw[e];exact h2 hw
noncomputable def sIx(n d:Nat):Option Int->Nat
 |none=>d
 |some v=>if v<0 then (v+(n:Int)).toNat else min v.toNat n
theorem sIx_none(n d:Nat):sIx n d none=d:=rfl
theorem sIx_nat(n d k:Nat):sIx n d (some (k:Int))=min k n:=by
 show (if (k:Int)<0 then ((k:Int)+(n:Int)).toNat else min (k:Int).toNat n)=min k n;rw[if_neg (by omega),wy]
theorem qBQ(n d:Nat)(hd:d<=n)(o:Option Int):sIx n d o<=n:=by
 cases o with
 |none=>exact hd
 |some v=>
  show (if v<0 then (v+(n:Int)).toNat else min v.toNat n)<=n;by_cases hv:v<0
  ·rw[if_pos hv];omega
  ·rw[if_neg hv];exact Nat.min_le_right _ _
theorem S4(v:Int)(n d:Nat):(if v<0 then max (v+(n:Int)) 0 else min v (n:Int))=((sIx n d (some v):Nat):Int):=by
 show (if v<0 then max (v+(n:Int)) 0 else min v (n:Int))=(((if v<0 then (v+(n:Int)).toNat else min v.toNat n):Nat):Int);by_cases hv:v<0
 ·simp only[if_pos hv];omega
 ·simp only[if_neg hv];omega
theorem L9(lo hi:Option Int)(n:Nat):Builtin.Slice.sliceAdjust lo hi 1 (n:Int)=(((sIx n 0 lo:Nat):Int),((sIx n n hi:Nat):Int)):=by
 have h1:¬ ((1:Int)<0):=by omega
 unfold Builtin.Slice.sliceAdjust;simp only[h1,if_false];refine Prod.ext ?_ ?_
 ·cases lo with
  |none=>rfl
  |some v=>exact S4 v n 0
 ·cases hi with
  |none=>rfl
  |some v=>exact S4 v n n
theorem K9(i j:Nat):Builtin.Slice.slicePlaces (i:Int) (j:Int) 1=j-i:=by
 unfold Builtin.Slice.slicePlaces;have h1:(1:Int)>0:=by omega
 simp only[h1,if_true,Int.ediv_one];split<;>omega
theorem ZW{v:Value}{o:Option Int}{Q:Option Int->Shared->Prop}(p:IsPart v o)(h:Q o s):wpAny (model prog w) A (Builtin.Slice.slicePartIndex v) Q E s:=by
 cases p with
 |none=>exact slicePart_none h
 |int i t=>exact slicePart_int h
theorem QK{sl:Addr}{vl vu:Value}{lo hi:Option Int}{n:Nat}{Q:Int×Int×Nat->Shared->Prop}(hs:s.heap.IsSliceOf sl vl vu .none)(pl:IsPart vl lo)(pu:IsPart vu hi)
  (h:Q (((sIx n 0 lo:Nat):Int),1,sIx n n hi-sIx n 0 lo) s):wpAny (model prog w) A (Builtin.Slice.sliceApplied (.ref sl) (pure (n:Int))) Q E s:=by
 obtain⟨os,hos,hcs,hds⟩:=id hs;unfold Builtin.Slice.sliceApplied Builtin.Slice.sliceFields;refine vU (vU (wpAny_field hos hds (x:=vl) rfl (vU (wpAny_field hos hds (x:=vu) rfl (vU (wpAny_field hos hds (x:=.none) rfl (vV ?_)))))));refine vU (slicePart_none ?_);show wpAny _ _ (if ((1:Int)==0)=true then _ else _) _ _ s;rw[if_neg (by decide)];refine vU (ZW pl (vU (ZW pu (vU (vV ?_)))));show wpAny _ _ (match Builtin.Slice.sliceAdjust lo hi 1 (n:Int) with|(lo,hi)=>pure (lo,(1:Int),Builtin.Slice.slicePlaces lo hi 1)) _ _ s;rw[L9 lo hi n];show wpAny _ _ (pure (((sIx n 0 lo:Nat):Int),(1:Int),Builtin.Slice.slicePlaces ((sIx n 0 lo:Nat):Int) ((sIx n n hi:Nat):Int) 1)) _ _ s;rw[K9];exact vV h
theorem g6(xs:Array Value)(i k:Nat):((List.range k).filterMap λ(m:Nat)=>xs[((i:Int)+(m:Int)*1).toNat]?).toArray=((xs.toList.drop i).take k).toArray:=by
 have e:(λ(m:Nat)=>xs[((i:Int)+(m:Int)*1).toNat]?)=λm=>xs[i+m]?:=by
  funext m
  have:((i:Int)+(m:Int)*1).toNat=i+m:=by omega
  rw[this]
 rw[e];have:=pick_run xs i k;rw[List.filterMap_map]at this;have e2:((λx=>xs[x]?)∘λx=>i+x)=λm=>xs[i+m]?:=rfl;rw[e2]at this;rw[this]
theorem getItem_tuple_cut{t sl:Addr}{items:Array Value}{vl vu:Value}{lo hi:Option Int}{Q:Value->Shared->Prop}(ht:IsTup s.heap t items)(hs:s.heap.IsSliceOf sl vl vu .none)(pl:IsPart vl lo)(pu:IsPart vu hi)
  (hw:¬ (sIx items.size 0 lo=0/\sIx items.size items.size hi=items.size))
  (h:Q (.ref s.heap.objs.size) { s with heap:=s.heap.push { cls:=.type "tuple",data:=.seq ((items.toList.drop (sIx items.size 0 lo)).take (sIx items.size items.size hi-sIx items.size 0 lo)).toArray } })
  (hsz:items.size<=sizeLine):wpAny (model prog w) A (getItem (.ref t) (.ref sl)) Q E s:=by
 have htake:sizeOk (.seq ((items.toList.drop (sIx items.size 0 lo)).take (sIx items.size items.size hi-sIx items.size 0 lo)).toArray):=by
  show ((items.toList.drop (sIx items.size 0 lo)).take (sIx items.size items.size hi-sIx items.size 0 lo)).toArray.size<=sizeLine;rw[wC,wO,wY,Array.length_toList];omega
 have hj:sIx items.size items.size hi<=items.size:=qBQ _ _ (Nat.le_refl _) hi;obtain⟨os,hos,hcs,hds⟩:=id hs;have hTs:s.TypeIs (.ref sl) "slice":=⟨os,hos,hcs⟩
 unfold getItem
 try with_reducible refine wpAny_holding ?_
 first|refine vU (vV ?_)|skip
 refine vU (wpAny_sequenceKey ht.typeIs (by decide) ?_);refine vU (wpAny_callSpecial?_slot (name:=Str.ofString "__getitem__") ht.typeIs PyProof.Rows.slot_tuple_getitem
  (wpAny_call_entry PyProof.Rows.slot_tuple_getitem ht.typeIs entry_tuple_getitem ?_ (args_tuple_getitem _ _)))
 show wpAny _ _ (Builtin.Tuple.tupleItemsOf (.ref t) >>=_) _ _ s;refine vU (tupleItemsOf_ ht ?_);refine vU (wpAny_typeOf hTs ?_);rw[if_pos (by decide)];refine vU (QK hs pl pu ?_);have hno:¬ ((((sIx items.size 0 lo:Nat):Int)==0&&(1:Int)==1&&(sIx items.size items.size hi-sIx items.size 0 lo)==items.size)=true):=by
  intro q;rw[Bool.and_eq_true,Bool.and_eq_true]at q;have q1:((sIx items.size 0 lo:Nat):Int)=0:=eq_of_beq q.1.1;have q2:sIx items.size items.size hi-sIx items.size 0 lo=items.size:=eq_of_beq q.2;exact hw ⟨by omega,by omega⟩
 show wpAny _ _ (if (((sIx items.size 0 lo:Nat):Int)==0&&(1:Int)==1&&(sIx items.size items.size hi-sIx items.size 0 lo)==items.size)=true then _ else _) _ _ s;rw[if_neg hno,g6]
 first
  |exact vU (m:=Builtin.Tuple.tupleExact _) (wpAny_newObj_type (vV ⟨_,rfl,vV h⟩) htake)
  |exact vU (m:=Builtin.Tuple.tupleExact _) (wpAny_newObj_type (vU (vV (vV ⟨_,rfl,vV h⟩))) htake)
  |exact vU (vU (m:=Builtin.Tuple.tupleExact _) (wpAny_newObj_type (vV (vV ⟨_,rfl,vV h⟩)) htake))
  |exact vU (vU (m:=Builtin.Tuple.tupleExact _) (wpAny_newObj_type (vV ⟨_,rfl,vV h⟩) htake))
end
end HT
namespace L2
open PySem PySem.Spec PyProof.Rows
noncomputable abbrev TO:=St->Hp->(Option Int->Hp->Prop)->Prop
def PO(X:Cx)(e:Option Expr)(t:TO):Prop:=
 ∀(pins:List (Addr×Obj)) (s:Shared) (σ:St) (H:Hp) (Q:Option Int->Hp->Prop),Inv X pins σ H s->t σ H Q ->
  wpAny (model X.prog X.w) X.A (evalPart e X.env) (λu s'=>∃o H',Inv X pins σ H' s'/\IsPart u o/\Q o H') X.xe s
noncomputable def qAF:TO:=λ_ H Q=>Q none H
noncomputable def qC3(t:TE):TO:=λσ H Q=>t σ H λx H1=>∃i,x=.int i/\Q (some i) H1
section
variable{X:Cx}{e:Expr}{te:TE}{lo hi:Option Expr}{tl th:TO}{pos p2:Pos}
theorem po_none:PO X none qAF:=by
 intro pins s σ H Q I h;rw[evalPart_none];exact vV ⟨none,H,I,.none,h⟩
theorem po_some(h:PE X e te):PO X (some e) (qC3 te):=by
 intro pins s σ H Q I hw;rw[evalPart_some];refine thn (h pins s σ H _ I hw) λu s1 ⟨x,H1,I1,r1,q1⟩=>?_;obtain⟨i,rfl,q⟩:=q1;obtain⟨t,rfl⟩:=r1;exact⟨some i,H1,I1,.int i t,q⟩
def SlR(X:Cx)(r:V->Option Int->Option Int->Hp->VK->Prop):Prop:=
 ∀(pins:List (Addr×Obj)) (s:Shared) (σ:St) (H:Hp) (x:V) (v vl vu:Value) (lo hi:Option Int) (sl:Addr) (Q:VK),Inv X pins σ H s->RelV x v->s.heap.IsSliceOf sl vl vu .none->IsPart vl lo->IsPart vu hi->r x lo hi H Q ->
  ∃T id,typeLookup (.type T) "__getitem__"=pure (some (.builtin id))/\s.TypeIs v T/\wpAny (model X.prog X.w) X.A (getItem v (.ref sl)) (EP X pins σ Q) X.xe s
theorem SlR.or{r r':V->Option Int->Option Int->Hp->VK->Prop}(h:SlR X r)(h':SlR X r'):SlR X (λx lo hi H Q=>r x lo hi H Q\/r' x lo hi H Q):=by
 intro pins s σ H x v vl vu lo hi sl Q I rx hs pl pu q;rcases q with q|q
 ·exact h pins s σ H x v vl vu lo hi sl Q I rx hs pl pu q
 ·exact h' pins s σ H x v vl vu lo hi sl Q I rx hs pl pu q
noncomputable def tSl(r:V->Option Int->Option Int->Hp->VK->Prop)(te:TE)(tl th:TO):TE:=λσ H Q=>te σ H λx H1=>tl σ H1 λl H2=>th σ H2 λu H3=>r x l u H3 Q
theorem pe_slice{r:V->Option Int->Option Int->Hp->VK->Prop}(hr:SlR X r)(he:PE X e te)(hl:PO X lo tl)(hu:PO X hi th):PE X (.Subscript e (.Slice lo hi none p2) pos) (tSl r te tl th):=by
 intro pins s σ H Q I h;refine Subscript_ (thn (he pins s σ H _ I h) λv s1 ⟨x,H1,I1,r1,q1⟩=>?_);refine wpAny_Slice (thn (hl pins s1 σ H1 _ I1 q1) λvl s2 ⟨l,H2,I2,pl,q2⟩=>thn (hu pins s2 σ H2 _ I2 q2) λvu s3 ⟨u,H3,I3,pu,q3⟩=>?_);rw[evalPart_none];refine vV ?_;have I4:Inv X pins σ H3 { s3 with heap:=s3.heap.push { cls:=.type "slice",data:=.fields #[vl,vu,.none] } }:=I3.kept (t':=s3.toks) λb ob q=>Heap.get?_push_of_some _ q;obtain⟨T,id,hT,ht,hg⟩:=hr pins { s3 with heap:=s3.heap.push { cls:=.type "slice",data:=.fields #[vl,vu,.none] } } σ H3 x v vl vu l u s3.heap.objs.size Q I4 r1 (Heap.IsSliceOf.new ..) pl pu q3;show wpAny (model X.prog X.w) X.A (subscriptTail e (.Slice lo hi none p2) v (.ref s3.heap.objs.size)) (EP X pins σ Q) X.xe { s3 with heap:=s3.heap.push { cls:=.type "slice",data:=.fields #[vl,vu,.none] } };exact tail_any (ops:=[.ref s3.heap.objs.size,v]) ht hT hg (by with_unfolding_all rfl)
noncomputable def cutV(xs:List V)(lo hi:Option Int):List V:=(xs.drop (HT.sIx xs.length 0 lo)).take (HT.sIx xs.length xs.length hi-HT.sIx xs.length 0 lo)
theorem Qa(xs:List V)(lo hi:Option Int):(cutV xs lo hi).length<=xs.length:=by
 unfold cutV;rw[wO,wY];omega
def qE7(K:PySem.W.Frag):V->Option Int->Option Int->Hp->VK->Prop:=λx lo hi H Q=>∃a xs,x=.ref a/\SqT K H a xs/\
 ¬ (HT.sIx xs.length 0 lo=0/\HT.sIx xs.length xs.length hi=xs.length)/\∀p,H p=none->Q (.ref p) (upd H p (.tup (cutV xs lo hi)))
theorem sl_tup:SlR X (qE7 X.K):=by
 intro pins s σ H x v vl vu lo hi sl Q I rx hs pl pu h;obtain⟨a,xs,rfl,hx,hw,q⟩:=h;cases rx;obtain⟨its,r,ht,hz⟩:=I.tuple hx;have hlen:its.toArray.size=xs.length:=by rw[wC];exact r.length.symm
 refine⟨"tuple",_,PyProof.Rows.slot_tuple_getitem.lookup,ht.typeIs,?_⟩;refine HT.getItem_tuple_cut ht hs pl pu (by rw[hlen];exact hw) ?_ (by rw[hlen];exact hz);rw[hlen];refine⟨.ref s.heap.objs.size,_,I.laid (t':=s.toks) (o:=.tup (cutV xs lo hi)) (λb ob q=>Heap.get?_push_of_some _ q) (Nat.le_refl _) ?_,rfl,q _ (I.hok.fresh (Nat.le_refl _))⟩;exact⟨Nat.le_trans (Qa xs lo hi) hz,_,(r.drop (HT.sIx xs.length 0 lo)).take (HT.sIx xs.length xs.length hi-HT.sIx xs.length 0 lo),IsTup.new _ _⟩
noncomputable def rCatT(K:PySem.W.Frag):R2:=λx y H Q=>∃a b xs ys,x=.ref a/\y=.ref b/\SqT K H a xs/\SqT K H b ys/\xs≠[]/\xs.length+ys.length<=sizeLine/\
 (ys=[]->Q (.ref a) H)/\(ys≠[]->∀p,H p=none->Q (.ref p) (upd H p (.tup (xs++ys))))
theorem Vals.nil_iff{xs:List V}{us:List Value}(r:Vals xs us):us=[]↔xs=[]:=by
 cases r with
 |nil=>simp
 |cons _ _=>simp
theorem op_catT:OpR X (binaryOp .Add) (rCatT X.K):=by
 intro pins s σ H x y v u Q I rx ry h;obtain⟨a,b,xs,ys,rfl,rfl,ha,hb,hx,hz,q1,q2⟩:=h;cases rx;cases ry;obtain⟨its,r1,p1,_⟩:=I.tuple ha;obtain⟨its2,r2,p2,_⟩:=I.tuple hb;refine HT.cat_tup p1 p2 (λz=>hx (r1.nil_iff.mp z)) (λz=>⟨.ref a,H,I,rfl,q1 (r2.nil_iff.mp z)⟩) (λz=>?_) (by rw[<-r1.length,<-r2.length];exact hz);refine⟨.ref s.heap.objs.size,_,I.laid (t':=s.toks) (o:=.tup (xs++ys)) (λb ob q=>Heap.get?_push_of_some _ q) (Nat.le_refl _) ?_,rfl,q2 (λw=>z (r2.nil_iff.mpr w)) _ (I.hok.fresh (Nat.le_refl _))⟩;exact⟨by rw[List.length_append];exact hz,_,r1.append r2,IsTup.new _ _⟩
end
noncomputable def ixN(n:Nat)(i:Int):Option Nat:=if 0<=i then (if i<n then some i.toNat else none) else if -(n:Int)<=i then some (i+n).toNat else none
noncomputable def atI{α:Type}(xs:List α)(i:Int):Option α:=(ixN xs.length i).bind λj=>xs[j]?
theorem ixN_seq{n:Nat}{i:Int}{j:Nat}(h:ixN n i=some j):seqIndex? i n=some j/\j<n/\-(n:Int)<=i/\i<n:=by
 unfold ixN at h;by_cases h0:0<=i
 ·rw[if_pos h0]at h;by_cases h1:i<n
  ·rw[if_pos h1]at h;have e:i.toNat=j:=Option.some.inj h;exact⟨by rw[seqIndex_of h0 h1,e],by omega,by omega,h1⟩
  ·rw[if_neg h1]at h;cases h
 ·rw[if_neg h0]at h;by_cases h1:-(n:Int)<=i
  ·rw[if_pos h1]at h;have e:(i+n).toNat=j:=Option.some.inj h;exact⟨by rw[seqIndex_neg (by omega) h1,e],by omega,h1,by omega⟩
  ·rw[if_neg h1]at h;cases h
theorem U7{α:Type}{xs:List α}{i:Int}{v:α}(h:atI xs i=some v):∃j,seqIndex? i xs.length=some j/\xs[j]?=some v/\j<xs.length/\-(xs.length:Int)<=i/\i<xs.length:=by
 unfold atI at h;cases e:ixN xs.length i with
 |none=>rw[e]at h;cases h
 |some j=>
  rw[e]at h;obtain⟨h1,h2,h3,h4⟩:=ixN_seq e;exact⟨j,h1,h,h2,h3,h4⟩
def PlainIx(b:Expr):Prop:=∀o i,subscripted b false o i=operate [o,i] (getItem o i)
def IxR(X:Cx)(r:R2):Prop:=
 ∀(value slice:Expr) (pins:List (Addr×Obj)) (s:Shared) (σ:St) (H:Hp) (x y:V) (v u:Value) (Q:VK),Inv X pins σ H s->RelV x v->RelV y u->r x y H Q ->
  subscripted slice false v u=operate [v,u] (getItem v u)->wpAny (model X.prog X.w) X.A (subscriptTail value slice v u) (EP X pins σ Q) X.xe s
def MtR(X:Cx)(id:String)(r:V->List V->Hp->VK->Prop):Prop:=
 ∀(pins:List (Addr×Obj)) (s:Shared) (σ:St) (H:Hp) (x:V) (xs:List V) (v:Value) (us:List Value) (Q:VK),Inv X pins σ H s->RelV x v->Vals xs us->r x xs H Q ->
  wpAny (model X.prog X.w) X.A (call (.builtin id) (v::us)) (EP X pins σ Q) X.xe s
section
variable{X:Cx}{a b:Expr}{ta tb:TE}{pos:Pos}
theorem IxR.or{r r':R2}(h:IxR X r)(h':IxR X r'):IxR X (λx y H Q=>r x y H Q\/r' x y H Q):=by
 intro value slice pins s σ H x y v u Q I rx ry q hs;rcases q with q|q
 ·exact h value slice pins s σ H x y v u Q I rx ry q hs
 ·exact h' value slice pins s σ H x y v u Q I rx ry q hs
theorem pe_ix{r:R2}(hr:IxR X r)(ha:PE X a ta)(hb:PE X b tb)(hs:PlainIx b):PE X (.Subscript a b pos) (tOp r ta tb):=by
 intro pins s σ H Q I h;exact Subscript_ (qk ha hb I h λv u s2 x y H2 I2 rx ry q=>hr a b pins s2 σ H2 x y v u Q I2 rx ry q (hs _ _))
noncomputable def qFg(K:PySem.W.Frag):R2:=λx y H Q=>∃p xs i v,x=.ref p/\y=.int i/\SqL K H p xs/\atI xs i=some v/\Q v H
noncomputable def qFX(K:PySem.W.Frag):R2:=λx y H Q=>∃p xs i v,x=.ref p/\y=.int i/\SqT K H p xs/\atI xs i=some v/\Q v H
theorem ix_list:IxR X (qFg X.K):=by
 intro value slice pins s σ H x y v u Q I rx ry h hs;obtain⟨p,xs,i,z,rfl,rfl,hq,he,q⟩:=h;cases rx;obtain⟨t,rfl⟩:=ry;obtain⟨its,r,pl,hz⟩:=I.list hq;obtain⟨j,h1,h2,h3,h4,h5⟩:=U7 he;obtain⟨w,ew,rw'⟩:=r.get h2;have hl:=r.length;have hn:=C7;have fin:EP X pins σ Q w s:=⟨z,H,I,rw',q⟩
 by_cases h0:0<=i
 ·have hj:i.toNat=j:=by
   rw[seqIndex_of h0 h5]at h1;exact Option.some.inj h1
  exact item_listR pl.isList h0 (by omega) (by rw[hj];simpa using ew) fin hs
 ·have hj:(i+(its.toArray.size:Int)).toNat=j:=by
   rw[seqIndex_neg (by omega) h4]at h1;rw[wC,<-hl];exact Option.some.inj h1
  exact subscriptTail_builtinR (x:=w) pl.isList.typeIs slot_list_getitem.lookup
   (wpAny_getItem_list_neg (Q:=λr s'=>r=w/\EP X pins σ Q r s') pl.isList (by omega) (by rw[wC]<;>omega) (by omega) (by rw[hj];simpa using ew) ⟨rfl,fin⟩) hs
theorem ix_tup:IxR X (qFX X.K):=by
 intro value slice pins s σ H x y v u Q I rx ry h hs;obtain⟨p,xs,i,z,rfl,rfl,hq,he,q⟩:=h;cases rx;obtain⟨t,rfl⟩:=ry;obtain⟨its,r,pl,hz⟩:=I.tuple hq;obtain⟨j,h1,h2,h3,h4,h5⟩:=U7 he;obtain⟨w,ew,rw'⟩:=r.get h2;have hl:=r.length;have hn:=C7;have fin:EP X pins σ Q w s:=⟨z,H,I,rw',q⟩
 exact subscriptTail_builtinR (x:=w) pl.typeIs slot_tuple_getitem.lookup
  (getItem_tuple (j:=j) (Q:=λr s'=>r=w/\EP X pins σ Q r s') pl (by omega) (by omega) (by rw[wC,<-hl];exact h1) (by simpa using ew) ⟨rfl,fin⟩) hs
theorem L5(its:List Value)(n j:Nat)(u:Value):Obj.mapSeq (·.setIfInBounds j u) { cls:=.type "list",data:=.seq its.toArray n }={ cls:=.type "list",data:=.seq (its.set j u).toArray n }:=by
 simp[Obj.mapSeq]
theorem Inv.lst{pins:List (Addr×Obj)}{σ:St}{H:Hp}{s:Shared}{p:Addr}{xs:List V}(I:Inv X pins σ H s)(h:H p=some (.lst xs)):
  ∃(its:List Value) (n:Nat),Vals xs its/\s.heap.get? p=some { cls:=.type "list",data:=.seq its.toArray n }/\xs.length<=sizeLine:=by
 obtain⟨z,its,n,r,e⟩:=I.hok p _ h;exact⟨its,n,r,e,z⟩
theorem Inv.lstUpd{pins:List (Addr×Obj)}{σ:St}{H:Hp}{s:Shared}{p:Addr}{xs ys:List V}{its its':List Value}{n n':Nat}{f:Obj->Obj}(I:Inv X pins σ H s)(h:H p=some (.lst xs))
  (ho:s.heap.get? p=some { cls:=.type "list",data:=.seq its.toArray n }) (hf:f { cls:=.type "list",data:=.seq its.toArray n }={ cls:=.type "list",data:=.seq its'.toArray n' }) (r:Vals ys its') (hz:ys.length<=sizeLine) (t:Nat):
  Inv X pins σ (upd H p (.lst ys)) { s with heap:=s.heap.update p f,toks:=t }:=by
 have e:(s.heap.update p f).get? p=some { cls:=.type "list",data:=.seq its'.toArray n' }:=by
  rw[Heap.get?_update_self f ho (by rw[hf]<;>rfl),hf]
 refine I.write (x:=p) (e:=p) (by rw[h];trivial) (.inl rfl) (λb u hb q=>(Heap.get?_update_other _ _ (Ne.symm hb)).trans q) ⟨_,e⟩ ?_;exact⟨hz,its',n',r,e⟩
def rSetL:V->V->V->Hp->(Hp->Prop)->Prop:=λo i v H Q=>∃p xs k j,o=.ref p/\i=.int k/\H p=some (.lst xs)/\ixN xs.length k=some j/\Q (upd H p (.lst (xs.set j v)))
theorem set_list:PSet X rSetL:=by
 intro pins s σ H o i v ov iv u Q I ro ri rv h;obtain⟨p,xs,k,j,rfl,rfl,hp,hj,q⟩:=h;cases ro;obtain⟨t,rfl⟩:=ri;obtain⟨its,n,r,ho,hz⟩:=I.lst hp;obtain⟨h1,h2,h3,h4⟩:=ixN_seq hj;have hl:=r.length;have hn:=C7;have I':Inv X pins σ (upd H p (.lst (xs.set j v))) { s with heap:=s.heap.update p (Obj.mapSeq (·.setIfInBounds j u)) }:=
  I.lstUpd hp ho (L5 its n j u) (r.set rv j) (by rw[List.length_set];exact hz) s.toks
 by_cases h0:0<=k
 ·have hk:k.toNat=j:=by
   rw[seqIndex_of h0 h4]at h1;exact Option.some.inj h1
  exact PySem.W.ki_setAt ho h0 (by omega) (by rw[wC,<-hl];exact h4) (by rw[hk];exact⟨_,I',q⟩)
 ·have hk:(k+(its.toArray.size:Int)).toNat=j:=by
   rw[seqIndex_neg (by omega) h3]at h1;rw[wC,<-hl];exact Option.some.inj h1
  exact PySem.W.ki_setBack ho (by omega) (by rw[wC,<-hl];exact h3) (by omega) (by rw[hk];exact⟨_,I',q⟩)
theorem JP(lo hi:Option Int)(n:Nat):(sliceBounds lo hi none n).1=((HT.sIx n 0 lo:Nat):Int)/\(sliceBounds lo hi none n).2.1=((HT.sIx n n hi:Nat):Int)/\(sliceBounds lo hi none n).2.2=1:=by
 refine⟨?_,?_,rfl⟩
 ·cases lo with
  |none=>simp[sliceBounds,HT.sIx]
  |some i=>
   simp only[sliceBounds,HT.sIx,Option.getD_none,show (1:Int)>0 by decide,if_true];by_cases h:i<0
   ·simp only[h,if_true]<;>omega
   ·simp only[h,if_false]<;>omega
 ·cases hi with
  |none=>simp[sliceBounds,HT.sIx]
  |some i=>
   simp only[sliceBounds,HT.sIx,Option.getD_none,show (1:Int)>0 by decide,if_true];by_cases h:i<0
   ·simp only[h,if_true]<;>omega
   ·simp only[h,if_false]<;>omega
theorem Zg(its:List Value)(lo hi:Option Int):slicePick its.toArray lo hi none=((its.drop (HT.sIx its.length 0 lo)).take (HT.sIx its.length its.length hi-HT.sIx its.length 0 lo)).toArray:=by
 obtain⟨h1,h2,h3⟩:=JP lo hi its.toArray.size;unfold slicePick;rw[h1,h2,h3];simp only[sliceRange_one,pick_run,wC]<;>rfl
def qFA(K:PySem.W.Frag):V->Option Int->Option Int->Hp->VK->Prop:=λx lo hi H Q=>∃a xs,x=.ref a/\SqL K H a xs/\∀p,H p=none->Q (.ref p) (upd H p (.lst (cutV xs lo hi)))
theorem sl_list:SlR X (qFA X.K):=by
 intro pins s σ H x v vl vu lo hi sl Q I rx hs pl pu h;obtain⟨a,xs,rfl,hx,q⟩:=h;cases rx;obtain⟨its,r,ht,hz⟩:=I.list hx;have hlen:=r.length;refine⟨"list",_,slot_list_getitem.lookup,ht.isList.typeIs,?_⟩;refine wpAny_getItem_list_slice ht.isList hs pl pu .none (by simp) ?_ (by rw[wC]<;>omega);rw[Zg,<-hlen];refine⟨.ref s.heap.objs.size,_,I.laid (t':=s.toks) (o:=.lst (cutV xs lo hi)) (λb ob q=>Heap.get?_push_of_some _ q) (Nat.le_refl _) ?_,rfl,q _ (I.hok.fresh (Nat.le_refl _))⟩;exact⟨Nat.le_trans (Qa xs lo hi) hz,_,0,(r.drop (HT.sIx xs.length 0 lo)).take (HT.sIx xs.length xs.length hi-HT.sIx xs.length 0 lo),Heap.get?_push_size _ rfl⟩
noncomputable def flatV:V->Bool
 | .non=>true
 | .bl _=>true
 | .int _=>true
 | .str _=>true
 |_=>false
noncomputable def eqV:V->V->Bool
 | .non,.non=>true
 | .bl a,.bl b=>a==b
 | .bl a,.int b=>(if a then 1 else 0)==b
 | .int a,.bl b=>a==(if b then 1 else 0)
 | .int a,.int b=>a==b
 | .str a,.str b=>a==b
 |_,_=>false
theorem qBT{A:Around}{s:Shared}{y x:V}{u v:Value}(ry:RelV y u)(rx:RelV x v)(fy:flatV y=true)(fx:flatV x=true):SeqAt.EqAt A s u v (eqV y x):=by
 cases y with
 |non=>
  cases ry;cases x with
  |non=>cases rx;exact SeqAt.EqAt.same _
  |bl b=>cases rx;exact SeqAt.EqAt.none_bool b
  |int b=>obtain⟨t,rfl⟩:=rx;exact SeqAt.EqAt.none_int b t
  |str b=>obtain⟨t,rfl⟩:=rx;exact SeqAt.EqAt.none_str b t
  |_=>exact absurd (show false=true from fx) wV
 |bl a=>
  cases ry;cases x with
  |non=>cases rx;exact SeqAt.EqAt.bool_none a
  |bl b=>cases rx;exact SeqAt.EqAt.bool_bool a b
  |int b=>obtain⟨t,rfl⟩:=rx;exact SeqAt.EqAt.bool_int a b t
  |str b=>obtain⟨t,rfl⟩:=rx;exact SeqAt.EqAt.bool_str a b t
  |_=>exact absurd (show false=true from fx) wV
 |int a=>
  obtain⟨t',rfl⟩:=ry;cases x with
  |non=>cases rx;exact SeqAt.EqAt.int_none a t'
  |bl b=>cases rx;exact SeqAt.EqAt.int_bool a t' b
  |int b=>obtain⟨t,rfl⟩:=rx;exact SeqAt.EqAt.int_int a t' b t
  |str b=>obtain⟨t,rfl⟩:=rx;exact SeqAt.EqAt.int_str a t' b t
  |_=>exact absurd (show false=true from fx) wV
 |str a=>
  obtain⟨t',rfl⟩:=ry;cases x with
  |non=>cases rx;exact SeqAt.EqAt.str_none a t'
  |bl b=>cases rx;exact SeqAt.EqAt.str_bool a t' b
  |int b=>obtain⟨t,rfl⟩:=rx;exact SeqAt.EqAt.str_int a t' b t
  |str b=>obtain⟨t,rfl⟩:=rx;exact SeqAt.EqAt.str_str a t' b t
  |_=>exact absurd (show false=true from fx) wV
 |_=>exact absurd (show false=true from fy) wV
noncomputable def eqU(x:V)(u:Value):Bool:=match u with
 | .none=>eqV .non x
 | .bool b=>eqV (.bl b) x
 | .int i _=>eqV (.int i) x
 | .str z _=>eqV (.str z) x
 |_=>false
theorem k9{x y:V}{u:Value}(r:RelV y u)(f:flatV y=true):eqU x u=eqV y x:=by
 cases y with
 |non=>cases r;rfl
 |bl b=>cases r;rfl
 |int i=>obtain⟨t,rfl⟩:=r;rfl
 |str z=>obtain⟨t,rfl⟩:=r;rfl
 |_=>exact absurd (show false=true from f) wV
theorem QZ{x:V}:∀{xs:List V}{us:List Value},Vals xs us->xs.all flatV=true->us.any (eqU x)=xs.any λy=>eqV y x
 |_,_,.nil,_=>rfl
 |y::xs,u::us,.cons r t,f=>by
  rw[List.all_cons,Bool.and_eq_true]at f;rw[List.any_cons,List.any_cons,k9 r f.1,QZ t f.2]
theorem jf{A:Around}{s:Shared}{x:V}{v:Value}(rx:RelV x v)(fx:flatV x=true):∀{xs:List V}{us:List Value},Vals xs us->xs.all flatV=true->∀u∈us,SeqAt.EqAt A s u v (eqU x u)
 |_,_,.nil,_=>λu hu=>by cases hu
 |y::xs,u::us,.cons r t,f=>λu' hu=>by
  rw[List.all_cons,Bool.and_eq_true]at f;rcases List.mem_cons.mp hu with rfl|hu
  ·rw[k9 r f.1];exact qBT r rx f.1 fx
  ·exact jf rx fx t f.2 u' hu
noncomputable def inV(x:V)(xs:List V):Bool:=xs.any λy=>eqV y x
noncomputable def rIn(K:PySem.W.Frag)(neg:Bool):R2:=λx y H Q=>∃p xs,y=.ref p/\(SqL K H p xs\/SqT K H p xs)/\flatV x=true/\xs.all flatV=true/\Q (.bl (if neg then !inV x xs else inV x xs)) H
theorem op_in_seq:OpR X (compareOp .In) (rIn X.K false):=by
 intro pins s σ H x y v u Q I rx ry h;obtain⟨p,xs,rfl,hq,fx,fs,q⟩:=h;cases ry;rcases hq with hq|hq
 ·obtain⟨its,r,pl,hz⟩:=I.list hq;refine SeqAt.in_listAt (eqU x) pl.isList (λw hw=>jf rx fx r fs w (by simpa using hw)) ⟨.bl _,H,I,rfl,?_⟩;rw[show its.toArray.any (eqU x)=its.any (eqU x) by simp,QZ r fs];exact q
 ·obtain⟨its,r,pl,hz⟩:=I.tuple hq;refine SeqAt.in_tupleAt (eqU x) pl (λw hw=>jf rx fx r fs w (by simpa using hw)) ⟨.bl _,H,I,rfl,?_⟩;rw[show its.toArray.any (eqU x)=its.any (eqU x) by simp,QZ r fs];exact q
theorem op_notIn_seq:OpR X (compareOp .NotIn) (rIn X.K true):=by
 intro pins s σ H x y v u Q I rx ry h;obtain⟨p,xs,rfl,hq,fx,fs,q⟩:=h;cases ry;rcases hq with hq|hq
 ·obtain⟨its,r,pl,hz⟩:=I.list hq;refine SeqAt.notIn_listAt (eqU x) pl.isList (λw hw=>jf rx fx r fs w (by simpa using hw)) ⟨.bl _,H,I,rfl,?_⟩;rw[show its.toArray.any (eqU x)=its.any (eqU x) by simp,QZ r fs];exact q
 ·obtain⟨its,r,pl,hz⟩:=I.tuple hq;refine SeqAt.notIn_tupleAt (eqU x) pl (λw hw=>jf rx fx r fs w (by simpa using hw)) ⟨.bl _,H,I,rfl,?_⟩;rw[show its.toArray.any (eqU x)=its.any (eqU x) by simp,QZ r fs];exact q
theorem call_len_seq:zD X (.builtin "len") (λxs H Q=>∃p ys,xs=[.ref p]/\(SqL X.K H p ys\/SqT X.K H p ys)/\Q (.int ys.length) H):=by
 intro pins s σ H xs us Q I r h;obtain⟨p,ys,rfl,hq,q⟩:=h;obtain⟨u,rfl,rx⟩:=vals1 r;cases rx;have hn:=C7;rcases hq with hq|hq
 ·obtain⟨its,r',pl,hz⟩:=I.list hq;have hlen:=r'.length;exact Calls.call_len_list pl.isList (by simp only[wC]<;>omega) ⟨.int ys.length,H,I.tok _,⟨s.toks+1,by rw[wC,hlen]⟩,q⟩
 ·obtain⟨its,r',pl,hz⟩:=I.tuple hq;have hlen:=r'.length;exact len_tuple pl (by simp only[wC]<;>omega) ⟨.int ys.length,H,I.tok _,⟨s.toks+1,by rw[wC,hlen]⟩,q⟩
theorem call_list_of:zD X (.type "list") (λxs H Q=>∃p ys,xs=[.ref p]/\(SqL X.K H p ys\/SqT X.K H p ys)/\∀l,H l=none->Q (.ref l) (upd H l (.lst ys))):=by
 intro pins s σ H xs us Q I r h;obtain⟨p,ys,rfl,hq,q⟩:=h;obtain⟨u,rfl,rx⟩:=vals1 r;cases rx;have fin:∀(its:List Value),Vals ys its->ys.length<=sizeLine->∀(h':Heap) (c':Nat),(∀b o',s.heap.get? b=some o'->h'.get? b=some o') ->
   h'.get? s.heap.objs.size=some { cls:=.type "list",dict:=none,data:=.seq its.toArray c',slots:=#[] }->EP X pins σ Q (.ref s.heap.objs.size) { s with heap:=h' }:=λits r' hz h' c' kp e=>
  ⟨.ref s.heap.objs.size,_,I.laid (t':=s.toks) kp (Nat.le_refl _) (show ObjOk X.prog X.w _ h' _ (.lst ys) from⟨hz,its,c',r',e⟩),rfl,q _ (I.hok.fresh (Nat.le_refl _))⟩
 rcases hq with hq|hq
 ·obtain⟨its,r',pl,hz⟩:=I.list hq;have hlen:=r'.length;obtain⟨o,ho,hc,n,hd⟩:=pl.isList;exact call_list_seq p (.inl rfl) ho hc hd (λh' c' kp e=>fin its r' hz h' c' kp e) (by simp only[wC]<;>omega)
 ·obtain⟨its,r',pl,hz⟩:=I.tuple hq;have hlen:=r'.length;obtain⟨o,ho,hc,n,hd⟩:=pl;exact call_list_seq p (.inr rfl) ho hc hd (λh' c' kp e=>fin its r' hz h' c' kp e) (by simp only[wC]<;>omega)
def tyV(K:PySem.W.Frag)(T:String)(x:V)(H:Hp):Prop:=match x with
 | .str _=>T="str"
 | .int _=>T="int"
 | .ref p=>(T="list"/\∃xs,SqL K H p xs)\/(T="tuple"/\∃o,K.lookup p=some o/\o.cls=.type "tuple"/\o.dict=none)\/
   (T="dict"/\((∃kvs,H p=some (.dK kvs))\/∃kvs,H p=some (.dT kvs)))\/(T="set"/\∃S n,H p=some (.set S n))
 |_=>False
theorem n6{pins:List (Addr×Obj)}{σ:St}{H:Hp}{s:Shared}{T:String}{x:V}{v:Value}(I:Inv X pins σ H s)(r:RelV x v)(ty:tyV X.K T x H):
  s.TypeIs v T/\∀a,v=.ref a->∃ob,s.heap.get? a=some ob/\ob.dict=none:=by
 cases x with
 |str z=>
  obtain⟨t,rfl⟩:=r;cases (show T="str" from ty);exact⟨typeIs_str s z t,λ_ e=>nomatch e⟩
 |int i=>
  obtain⟨t,rfl⟩:=r;cases (show T="int" from ty);exact⟨typeIs_int s i t,λ_ e=>nomatch e⟩
 |ref p=>
  cases r;rcases ty with⟨rfl,xs,hq⟩|⟨rfl,o,hk,hc,hd⟩|⟨rfl,hk⟩|⟨rfl,S,n,hk⟩
  ·obtain⟨its,_,pl,_⟩:=I.list hq;refine⟨pl.isList.typeIs,λa e=>?_⟩;cases e;obtain⟨o,n,e,c,hd,_⟩:=pl;exact⟨o,e,hd⟩
  ·refine⟨⟨o,I.kIn p o hk,hc⟩,λa e=>?_⟩;cases e;exact⟨o,I.kIn _ o hk,hd⟩
  ·have z:∃o,s.heap.get? p=some o/\o.ExactDict:=by
    rcases hk with⟨kvs,hk⟩|⟨kvs,hk⟩
    ·obtain⟨_,_,_,_,o,_,_,e,ex,_⟩:=I.hok p _ hk;exact⟨o,e,ex⟩
    ·obtain⟨_,_,_,_,o,_,_,e,ex,_⟩:=I.hok p _ hk;exact⟨o,e,ex⟩
   obtain⟨o,e,ex⟩:=z;refine⟨⟨o,e,ex.1⟩,λa e2=>?_⟩;cases e2;exact⟨o,e,ex.2.1⟩
  ·obtain⟨o,_,_,_,e,ex,_⟩:=I.hok p _ hk;refine⟨⟨o,e,ex.1⟩,λa e2=>?_⟩;cases e2;exact⟨o,e,ex.2.1⟩
 |_=>exact False.elim ty
noncomputable def tBM0(K:PySem.W.Frag)(T:String)(r:V->List V->Hp->VK->Prop)(to:TE):TE:=λσ H Q=>to σ H λx H1=>tyV K T x H1/\r x [] H1 Q
noncomputable def tBM(K:PySem.W.Frag)(T:String)(r:V->List V->Hp->VK->Prop)(to:TE)(t:TA):TE:=λσ H Q=>to σ H λx H1=>tyV K T x H1/\t σ H1 λxs H2=>r x xs H2 Q
variable{o e:Expr}{es:List Expr}{to:TE}{t:TA}{name:Str}{apos cpos:Pos}{T id:String}{r:V->List V->Hp->VK->Prop}
theorem pe_bm0(pa:PlainAttrs T)(slot:Slot T name id)(hty:typeOf (.builtin id)=pure (.type "method_descriptor"))(hm:MtR X id r)(ho:PE X o to)
  (hbase:attributeBase o name X.env (eval o X.env)=eval o X.env:=by rfl) (hline:(apos.endLine==cpos.line)=true:=by rfl):PE X (.Call (.Attribute o name apos) [] [] cpos) (tBM0 X.K T r to):=by
 intro pins s σ H Q I h;refine wpAny_Call_method0_late hbase hline (thn (ho pins s σ H _ I h) λv s1 ⟨x,H1,I1,r1,ty,q1⟩=>?_);obtain⟨h1,h2⟩:=n6 I1 r1 ty;exact⟨T,id,pa,slot,hty,h1,h2,Calls.callWith_builtin rfl (PySem.evalArgs_none (hm pins s1 σ H1 x [] v [] Q I1 r1 .nil q1))⟩
theorem pe_bm(pa:PlainAttrs T)(slot:Slot T name id)(hty:typeOf (.builtin id)=pure (.type "method_descriptor"))(hm:MtR X id r)(ho:PE X o to)(ha:PA X (e::es) t)
  (hbase:attributeBase o name X.env (eval o X.env)=eval o X.env:=by rfl)
  (hfew:((backTo cpos (starEach (e::es) X.env)).all (λx=>!x.1)&&(backToKw cpos (keywordEach [] X.env)).all (λx=>x.1.isSome)
   && decide ((e::es).length+([]:List Keyword).length+(if ([]:List Keyword).isEmpty then 0 else 1)<30))=true:=by rfl)
  (hline:(apos.endLine==cpos.line)=true:=by rfl) (hs:starEach (e::es) X.env=(false,eval e X.env)::starEach es X.env:=by rfl) (hplain:(backTo cpos (starEach es X.env)).any (·.1)=false:=by rfl):
  PE X (.Call (.Attribute o name apos) (e::es) [] cpos) (tBM X.K T r to t):=by
 intro pins s σ H Q I h;refine wpAny_Call_method_late hbase hfew hline rfl (thn (ho pins s σ H _ I h) λv s1 ⟨x,H1,I1,r1,ty,q1⟩=>?_);obtain⟨h1,h2⟩:=n6 I1 r1 ty;refine⟨T,id,pa,slot,hty,h1,h2,?_⟩;have hA:=ha cpos pins s1 σ H1 _ I1 q1;rw[hs]at hA ⊢;refine Calls.callWith_builtin (by show (false||(backTo cpos (starEach es X.env)).any (·.1))=false;rw[hplain]<;>rfl) (Calls.evalArgs_plain ?_);exact thn hA λus s2 ⟨vs,H2,I2,r2,q2⟩=>hm pins s2 σ H2 x vs v us Q I2 r1 r2 q2
end
def MtM(X:Cx)(id:String)(r:V->List V->Hp->VK->Prop):Prop:=
 ∀(pins:List (Addr×Obj)) (s:Shared) (σ:St) (H:Hp) (x:V) (xs:List V) (v:Value) (us:List Value) (Q:VK),Inv X pins σ H s->RelV x v->Vals xs us->r x xs H Q ->
  wpAny (model X.prog X.w) X.A (call (.builtin id) (v::us)) (EP X pins σ Q) X.xe s
theorem Vals.one:∀{x:V}{us:List Value},Vals [x] us->∃u,us=[u]/\RelV x u
 |_,_,.cons r .nil=>⟨_,rfl,r⟩
theorem Vals.zero:∀{us:List Value},Vals [] us->us=[]
 |_,.nil=>rfl
theorem Vals.dropLast{xs:List V}{us:List Value}(h:Vals xs us):Vals xs.dropLast us.dropLast:=by
 induction h with
 |nil=>exact .nil
 |cons r t ih=>
  cases t with
  |nil=>exact .nil
  |cons q t'=>exact .cons r ih
theorem Vals.eraseIdx:∀{xs:List V}{us:List Value}(i:Nat),Vals xs us->Vals (xs.eraseIdx i) (us.eraseIdx i)
 |_,_,_,.nil=>.nil
 |_,_,0,.cons _ t=>t
 |_,_,i+1,.cons r t=>.cons r (Vals.eraseIdx i t)
theorem Vals.reverse{xs:List V}{us:List Value}(h:Vals xs us):Vals xs.reverse us.reverse:=by
 induction h with
 |nil=>exact .nil
 |cons r t ih=>rw[wq,wq];exact Vals.append ih (.cons r .nil)
theorem Vals.rep{xs:List V}{us:List Value}(h:Vals xs us):∀k:Nat,Vals (List.replicate k xs).flatten (List.replicate k us).flatten
 | 0=>.nil
 |k+1=>by
  rw[List.replicate_succ,List.replicate_succ,List.flatten_cons,List.flatten_cons];exact Vals.append h (Vals.rep h k)
theorem K0{α:Type}(l:List α):l.eraseIdx (l.length-1)=l.dropLast:=by
 induction l with
 |nil=>rfl
 |cons a r ih=>
  cases r with
  |nil=>rfl
  |cons b r=>
   have e:(a::b::r).length-1=((b::r).length-1)+1:=by
    have h1:(a::b::r).length=r.length+2:=rfl;have h2:(b::r).length=r.length+1:=rfl;omega
   rw[e,List.eraseIdx_cons_succ,ih]
   all_goals rfl
theorem JI{α:Type}:∀(l:List α) (i:Nat),(l.eraseIdx i).length<=l.length
 | [],_=>Nat.le_refl _
 |_::_,0=>Nat.le_succ _
 |_::r,i+1=>vG (JI r i)
theorem Jn(its:List Value):∀(k:Nat) (acc:List Value),
  List.foldl (λx1 x2=>x1++x2) acc.toArray (List.replicate k its.toArray)=(acc++(List.replicate k its).flatten).toArray
 | 0,acc=>by simp
 |k+1,acc=>by
  have e:acc.toArray++its.toArray=(acc++its).toArray:=by simp
  have e2:(acc++its)++(List.replicate k its).flatten=acc++(List.replicate (k+1) its).flatten:=by
   rw[List.replicate_succ,List.flatten_cons,List.append_assoc]
  rw[<-e2,<-Jn its k (acc++its),<-e,List.replicate_succ,List.foldl_cons]
section
variable{X:Cx}{pins:List (Addr×Obj)}{σ:St}{H:Hp}{s:Shared}{l b:Addr}{xs ys zs:List V}
theorem Inv.lset{its its':List Value}{n:Nat}{f:Array Value->Array Value}{t':Nat}(I:Inv X pins σ H s)(hH:H l=some (.lst xs))
  (e:s.heap.get? l=some { cls:=.type "list",data:=.seq its.toArray n }) (hf:f its.toArray=its'.toArray) (hv:Vals ys its') (hz:ys.length<=sizeLine):
  Inv X pins σ (upd H l (.lst ys)) { s with heap:=s.heap.update l (Obj.mapSeq f),toks:=t' }:=by
 have q:=PySem.IsL.update e f;rw[hf]at q;refine I.write (x:=l) (e:=l) (by rw[hH];exact trivial) (.inl rfl) (λb' u hb hu=>(Heap.get?_update_other s.heap (Obj.mapSeq f) (Ne.symm hb)).trans hu) ⟨_,q⟩ ?_;exact⟨hz,its',_,hv,q⟩
theorem Inv.lnew{its:List Value}{t':Nat}(I:Inv X pins σ H s)(hv:Vals ys its)(hz:ys.length<=sizeLine):
  Inv X pins σ (upd H s.heap.objs.size (.lst ys)) { s with heap:=s.heap.push { cls:=.type "list",data:=.seq its.toArray },toks:=t' }:=
 I.laid (λ_ _ q=>Heap.get?_push_of_some _ q) (Nat.le_refl _) ⟨hz,its,0,hv,Heap.get?_push_size _ rfl⟩
theorem Inv.fresh(I:Inv X pins σ H s):H s.heap.objs.size=none:=I.hok.fresh (Nat.le_refl _)
theorem Inv.lstM(I:Inv X pins σ H s)(hH:H l=some (.lst xs)):xs.length<=sizeLine/\∃(its:List Value) (n:Nat),Vals xs its/\xs.length=its.length/\s.heap.get? l=some { cls:=.type "list",data:=.seq its.toArray n }:=by
 obtain⟨z,its,n,r,e⟩:=I.hok l _ hH;exact⟨z,its,n,r,r.length,e⟩
theorem Y5{n:Nat}(h:n<=sizeLine):Builtin.List.listTooLong n=false:=by
 unfold Builtin.List.listTooLong;exact vW (by omega)
end
section
variable{X:Cx}
def qAe:V->List V->Hp->VK->Prop:=λx vs H Q=>∃l xs y,x=.ref l/\vs=[y]/\H l=some (.lst xs)/\xs.length<sizeLine/\Q .non (upd H l (.lst (xs++[y])))
theorem mt_append:MtM X "list.append" qAe:=by
 intro pins s σ H x vs v us Q I rx rv h;obtain⟨l,xs,y,rfl,rfl,hH,hz,q⟩:=h;cases rx;obtain⟨u,rfl,ru⟩:=rv.one;obtain⟨z,its,n,r,hl,e⟩:=I.lstM hH;refine call_meets F.slot_list_append ⟨_,e,rfl⟩ F.entry_list_append (F.args_list_append_2 _ _) (PySem.list_append l its.toArray n u (by rw[wC];omega)) ⟨e,?_⟩;refine⟨.non,_,I.lset (its':=its++[u]) hH e (by simp) (r.append (.cons ru .nil)) ?_,rfl,q⟩;rw[List.length_append,List.length_singleton];omega
def rPop:V->List V->Hp->VK->Prop:=λx vs H Q=>∃l xs y,x=.ref l/\vs=[]/\H l=some (.lst xs)/\xs[xs.length-1]?=some y/\Q y (upd H l (.lst xs.dropLast))
theorem mt_pop:MtM X "list.pop" rPop:=by
 intro pins s σ H x vs v us Q I rx rv h;obtain⟨l,xs,y,rfl,rfl,hH,hy,q⟩:=h;cases rx;have hus:=rv.zero;subst hus;obtain⟨z,its,n,r,hl,e⟩:=I.lstM hH;obtain⟨u,hu,ru⟩:=r.get hy;have hy':its.toArray[its.toArray.size-1]?=some u:=by
  show its.toArray[its.length-1]?=some u;rw[<-Array.getElem?_toList,<-hl];exact hu
 refine call_meets F.slot_list_pop ⟨_,e,rfl⟩ F.entry_list_pop (F.args_list_pop_1 _) (MeetsSeq.list_pop_last l its.toArray n u hy' (by rw[wC];omega)) ⟨e,?_⟩;refine⟨y,_,I.lset (its':=its.dropLast) hH e ?_ r.dropLast ?_,ru,q⟩
 ·show its.toArray.eraseIdxIfInBounds (its.toArray.size-1)=its.dropLast.toArray;rw[wC,List.eraseIdxIfInBounds_toArray,K0]
 ·rw[List.length_dropLast];omega
def rPopAt:V->List V->Hp->VK->Prop:=λx vs H Q=>∃l xs i k y,x=.ref l/\vs=[.int i]/\H l=some (.lst xs)/\-(2 ^ 63)<=i/\i<2 ^ 63/\seqIndex? i xs.length=some k/\xs[k]?=some y/\Q y (upd H l (.lst (xs.eraseIdx k)))
theorem mt_popAt:MtM X "list.pop" rPopAt:=by
 intro pins s σ H x vs v us Q I rx rv h;obtain⟨l,xs,i,k,y,rfl,rfl,hH,h1,h2,hk,hy,q⟩:=h;cases rx;obtain⟨u,rfl,ru⟩:=rv.one;obtain⟨t,rfl⟩:=ru;obtain⟨z,its,n,r,hl,e⟩:=I.lstM hH;obtain⟨w,hw,rw'⟩:=r.get hy;refine call_meets F.slot_list_pop ⟨_,e,rfl⟩ F.entry_list_pop (F.args_list_pop_2 _ _)
  (MeetsSeq.list_pop_at l its.toArray n i t k w (fitsIndex_both h1 h2) (by rw[wC,<-hl];exact hk) (by rw[<-Array.getElem?_toList];exact hw) (by rw[wC];omega)) ⟨e,?_⟩
 refine⟨y,_,I.lset (its':=its.eraseIdx k) hH e ?_ (r.eraseIdx k) ?_,rw',q⟩
 ·show its.toArray.eraseIdxIfInBounds k=(its.eraseIdx k).toArray;rw[List.eraseIdxIfInBounds_toArray]
 ·have:=JI xs k;omega
def rReverse:V->List V->Hp->VK->Prop:=λx vs H Q=>∃l xs,x=.ref l/\vs=[]/\H l=some (.lst xs)/\Q .non (upd H l (.lst xs.reverse))
theorem mt_reverse:MtM X "list.reverse" rReverse:=by
 intro pins s σ H x vs v us Q I rx rv h;obtain⟨l,xs,rfl,rfl,hH,q⟩:=h;cases rx;have hus:=rv.zero;subst hus;obtain⟨z,its,n,r,hl,e⟩:=I.lstM hH;refine call_meets F.slot_list_reverse ⟨_,e,rfl⟩ F.entry_list_reverse (F.args_list_reverse_1 _) (AutoSeq1.list_reverse_list_0 l its.toArray n (by rw[wC];omega)) ⟨e,?_⟩;refine⟨.non,_,I.lset (its':=its.reverse) hH e (by simp) r.reverse ?_,rfl,q⟩;rw[List.length_reverse];omega
def rClear:V->List V->Hp->VK->Prop:=λx vs H Q=>∃l xs,x=.ref l/\vs=[]/\H l=some (.lst xs)/\Q .non (upd H l (.lst []))
theorem mt_clear:MtM X "list.clear" rClear:=by
 intro pins s σ H x vs v us Q I rx rv h;obtain⟨l,xs,rfl,rfl,hH,q⟩:=h;cases rx;have hus:=rv.zero;subst hus;obtain⟨z,its,n,r,hl,e⟩:=I.lstM hH;refine call_meets F.slot_list_clear ⟨_,e,rfl⟩ F.entry_list_clear (F.args_list_clear_1 _) (AutoSeq1.list_clear_list_0 l its.toArray n (by rw[wC];omega)) ⟨e,?_⟩;exact⟨.non,_,I.lset (its':=[]) (ys:=[]) hH e rfl .nil (Nat.zero_le _),rfl,q⟩
noncomputable def rCat:R2:=λx y H Q=>∃l b xs zs,x=.ref l/\y=.ref b/\H l=some (.lst xs)/\H b=some (.lst zs)/\xs.length+zs.length<=sizeLine/\∀p,H p=none->Q (.ref p) (upd H p (.lst (xs++zs)))
theorem op_cat:OpR X (binaryOp .Add) rCat:=by
 intro pins s σ H x y v u Q I rx ry h;obtain⟨l,b,xs,zs,rfl,rfl,hH,hB,hz,q⟩:=h;cases rx;cases ry;obtain⟨z,its,n,r,hl,e⟩:=I.lstM hH;obtain⟨z2,its2,n2,r2,hl2,e2⟩:=I.lstM hB;refine PySem.P.add_list e e2 ?_ (by rw[wC,wC];omega);have ea:its.toArray++its2.toArray=(its++its2).toArray:=by simp
 rw[ea];exact⟨.ref _,_,I.lnew (t':=s.toks) (r.append r2) (by rw[List.length_append];omega),rfl,q _ I.fresh⟩
noncomputable def rRep:R2:=λx y H Q=>∃l k xs,x=.ref l/\y=.int k/\H l=some (.lst xs)/\-(2 ^ 63)<=k/\k<2 ^ 63/\xs.length*k.toNat<=sizeLine/\
 ∀p,H p=none->Q (.ref p) (upd H p (.lst (List.replicate k.toNat xs).flatten))
theorem qAZ{α:Type}(xs:List α)(k:Nat):(List.replicate k xs).flatten.length=k*xs.length:=by
 induction k with
 |zero=>simp
 |succ k ih=>rw[List.replicate_succ,List.flatten_cons,List.length_append,ih,Nat.succ_mul,vQ]
theorem op_rep:OpR X (binaryOp .Mult) rRep:=by
 intro pins s σ H x y v u Q I rx ry h;obtain⟨l,k,xs,rfl,rfl,hH,h1,h2,hz,q⟩:=h;cases rx;obtain⟨t,rfl⟩:=ry;obtain⟨z,its,n,r,hl,e⟩:=I.lstM hH;have hlen:its.toArray.size*k.toNat<=sizeLine:=by rw[wC,<-hl];exact hz
 have hcap:¬ its.toArray.size*k.toNat>(2 ^ 63-1) / 8:=by
  have:(sizeLine:Nat)<=(2 ^ 63-1) / 8:=by decide
  omega
 have hfit:¬ (!Builtin.List.listFitsIndex k)=true:=by
  rw[fitsIndex_both h1 h2];exact wV
 have hlong:¬ Builtin.List.listTooLong (its.toArray.size*k.toNat)=true:=by
  rw[Y5 hlen];exact wV
 have hnew:List.foldl (λx1 x2=>x1++x2) #[] (List.replicate (if its.toArray.isEmpty=true then 0 else k.toNat) its.toArray)=(List.replicate k.toNat its).flatten.toArray:=by
  have f0:∀m:Nat,List.foldl (λx1 x2=>x1++x2) #[] (List.replicate m its.toArray)=(List.replicate m its).flatten.toArray:=λm=>by
   have:=Jn its m [];rw[List.nil_append]at this;exact this
  rw[f0];cases its with
  |nil=>simp
  |cons a r'=>rw[if_neg (by simp)]
 refine wpAny_binaryOp_repeat_ref (T:="list") (U:="int") (by decide) ⟨_,e,rfl⟩ (λs'=>typeIs_int s' k t) noFill_list_mul F.fills_int_mul F.slot_int_rmul repeat_list F.slot_int_index.lookup
  (call_meets F.slot_int_rmul (typeIs_int s k t) F.entry_int_rmul (F.args_int_rmul_2 _ _) (int___rmul___int_list k t l its.toArray n)
   ⟨e,rfl,⟨_,e,rfl⟩,call_meets F.slot_list_mul ⟨_,e,rfl⟩ F.entry_list_mul (F.args_list_mul_2 _ _) (AutoListH.list___mul___list_int_3 l its.toArray n k t hfit hcap hlong) ⟨e,?_⟩⟩)
 rw[hnew];exact⟨.ref _,_,I.lnew (t':=s.toks) (r.rep k.toNat) (by rw[qAZ,Nat.mul_comm];exact hz),rfl,q _ I.fresh⟩
end
end L2
namespace Att
open PySem PySem.W PySem.Calls PyProof.Rows
theorem Qc{P:Params}{h:Heap}:∀(ns:List Int) (vs:List Value),WellAll P h vs (ns.map WData.int)->IntsAre vs ns:=by
 intro ns
 induction ns with
 |nil=>
  intro vs w;rw[List.map_nil]at w;cases w;exact .nil
 |cons n ns ih=>
  intro vs w;rw[List.map_cons]at w;cases w with
  |cons a b=>
   cases a;exact .cons _ _ (ih _ b)
theorem T7{l:OpenLaw}{n:Nat}(hn:l.most=some n){P:Params}{h:Heap}{args:List WData}{vals:List Value}
  (hpre:l.row.toRowW.claim.pre args=true) (hwl:WellAll P h vals args):
  ∃a vs ns,vals=[Value.ref a]/\args=[WData.list (ns.map WData.int)]/\h.get? a=some { cls:=.type "list",data:=.seq vs.toArray }/\IntsAre vs ns/\ns.length<=n:=by
 have hsh:WShape.hasAll [] args [.list .int]=true:=(pre_splitW hpre).1;have hc:l.pre.holds [] { args:=args }=true:=(pre_splitW hpre).2;obtain⟨d,r,rfl,h1,h2⟩:=hasAllW_cons hsh;obtain rfl:=hasAllW_nil h2;obtain⟨xs,rfl,h3⟩:=hasW_list h1;obtain⟨ns,rfl⟩:=items_int h3;have hlen:ns.length<=n:=by
  unfold OpenLaw.pre at hc;have h4:(WTm.not (.lt (.lit (.int (n:Int))) (.len (.arg 0)))).holds [] { args:=[.list (ns.map .int)] }=true:=by
   have h4:=(holds_andW hc).1;rw[hn]at h4;exact h4
  have h5:=condW_of h4 (w_not (w_lt w_lit (w_len_list (w_arg rfl))));rw[wR]at h5;refine Nat.le_of_not_lt λq=>?_;have q':(n:Int)<((ns.length:Nat):Int):=by omega
  first
   | (rw[vX q']at h5;exact absurd h5 (by decide))
   | (simp at h5;omega)
 cases hwl with
 |cons w1 w2=>
  cases w2;cases w1 with
  |list ho hall=>exact⟨_,_,ns,rfl,rfl,ho,Qc ns _ hall,hlen⟩
theorem T3(l:OpenLaw)(args:List WData):l.row.toRowW.claim.post args (.bool true) args=true:=
 postW_of (r:=l.row.toRowW) (X:=(true==true))
  (show WShape.has [] (.bool true) .bool=true by first|rfl|decide|simp[WShape.has,WShape.arms,WShape.armsAll])
  (show (WTm.eq .res (.lit (.bool true))).value [] { args:=args,res:=some (.bool true),after:=args }=some (.bool (true==true)) from w_eq_bool (w_res rfl) w_lit) rfl
theorem attach_call{l:OpenLaw}{n:Nat}{q:Program}{loose:List Str}{XP:(Str->Option Value)->Heap->Prop}{YP:World->Heap->Prop}{d:DefRec}
  (hn:l.most=some n) (hdf:d.params.defaults=[])
  (call:∀(w:World) (s₀ s₁:Shared) (mg mb:Str->Option Value) (fa:Addr) (o:Obj) (pm cd doc:Value) (a:Addr) (vs:List Value) (ns:List Int),
   Ground q loose [] XP w s₀ mg mb s₁.heap->YP w s₁.heap ->
   s₁.heap.get? fa=some o->o.data=.func (docDef d.name d.params d.body d.scope pm cd doc)->s₁.heap.CodeRec cd d.name->mg d.name=some (.ref fa) ->
   s₁.heap.get? a=some { cls:=.type "list",data:=.seq vs.toArray }->IntsAre vs ns->ns.length<=n->s₁.gens=#[] ->
   codeAny (model l.prog w) callerA (.call (.ref fa) ⟨[.ref a],[]⟩) (λr s'=>r=.ok (.ret (.bool true))/\OldK s₁.heap s'.heap/\s'.os=s₁.os/\AllBare s'.gens) s₁):
  WalkO q loose XP YP l.row.toRowW d [] (λf vs=>PySem.call f vs):=by
 intro w s₀ s₁ mg mb G Y fa o pm cd doc dV kV ho hd hcd hD hmg hg args vals as hpre hlay hrd hwl hlo;obtain rfl:dV=.none:=Dflts.none hD hdf;obtain rfl:kV=.none:=Dflts.noKw hD;obtain⟨a,vs,ns,rfl,rfl,hobj,hints,hlen⟩:=T7 hn hpre hwl;refine enter_call (codeAny_mono (call w s₀ s₁ mg mb fa o pm cd doc a vs ns G Y ho (fd_plain hd) hcd hmg hobj hints hlen hg) λr s' hq=>?_);obtain⟨rfl,h2,h3,h4⟩:=hq;exact⟨.inl ⟨.bool true,.bool true,[],rfl,λ_=>rfl,.bool true,T3 l _,λ_=>⟨List.Pairwise.nil,λ_ hm=>(nomatch hm)⟩⟩,h2,h3,h4⟩
end Att
namespace L2
open PySem PySem.Spec PyProof.Rows
theorem jd:∀{vs:List Value}{ns:List Int},IntsAre vs ns->Vals (ns.map V.int) vs
 |_,_,.nil=>.nil
 |_,_,.cons n t h=>.cons ⟨t,rfl⟩ (jd h)
def Only(H:Hp):Prop:=∀b,H b=none\/∃o xs,H b=some (.frz o (.lst xs))
theorem Z0{P:Program}{w:World}{K:PySem.W.Frag}{mg mb:Str->Option Value}{CX:CXT}{k:Nat}{fa a:Addr}{fd:FuncData}{x:Str}{sp:Sp}{s₁:Shared}{vs:List Value}{ns:List Int}
  (KX:K.In s₁.heap) (hns:s₁.heap.Ns mainGlobals mg) (hb:s₁.heap.Ns builtinsNs mb) (hbb:∀x:Str,x≠"__name__" -> mb x=bootBuiltins x) (hlim:s₁.heap.NoLimit) (hg:s₁.gens=#[])
  (ha:s₁.heap.get? a=some { cls:=.type "list",data:=.seq vs.toArray }) (hi:IntsAre vs ns) (hl:ns.length<=sizeLine) (hr:Room k callerA)
  (F:∀base:Heap,K.In base->base.Ns mainGlobals mg->FnOk P w K mg base CX k fa fd [x] sp) (hbind:∀(s:Shared) (u:Value),BindsTo s fd ⟨[u],[]⟩ [(x,u)])
  (hsp:∀H:Hp,Only H->SqL K H a (ns.map V.int)->sp [.ref a] H (λv _=>v=.bl true) λ_ _ _=>False)
  (hCX:∀H e s',CX [] H s₁ (λ_ _ _=>False) e s'->False):
  codeAny (model P w) callerA (.call (.ref fa) ⟨[.ref a],[]⟩) (λr s'=>r=.ok (.ret (.bool true))/\OldK s₁.heap s'.heap/\s'.os=s₁.os/\AllBare s'.gens) s₁:=by
 have rv:=jd hi;have lenV:=hi.length;have core:∀H:Hp,Only H->SqL K H a (ns.map V.int)->HOk P w H s₁.heap->(∀b,H b≠none->b=a)->(H a≠none->K.lookup a=none) ->
   codeAny (model P w) callerA (.call (.ref fa) ⟨[.ref a],[]⟩) (λr s'=>r=.ok (.ret (.bool true))/\OldK s₁.heap s'.heap/\s'.os=s₁.os/\AllBare s'.gens) s₁:=by
  intro H hO hS hok hA hK;have base_of:∀{b:Addr}{o:Obj},s₁.heap.get? b=some o->H b=none->(X9 s₁.heap H).get? b=some o:=λe n=>Z8 e n;have noA:∀{b:Addr}{o:Obj}{es:Array DictEntry}{ep:Nat},s₁.heap.get? b=some o->o.data=.dict es ep->H b=none:=λ{b o es ep} e d=>by
   cases q:H b with
   |none=>rfl
   |some u=>
    have e':b=a:=hA b (by rw[q];simp);subst e';rw[ha]at e;cases e;have d':Data.seq vs.toArray _=Data.dict es ep:=d;cases d'
  have nsK:∀{b:Addr}{m:Str->Option Value},s₁.heap.Ns b m->(X9 s₁.heap H).Ns b m:=λ{b m} ⟨o,es,ep,e,d,r⟩=>⟨o,es,ep,base_of e (noA e d),d,r⟩
  have hKb:K.In (X9 s₁.heap H):=λb o e=>base_of (KX b o e) (by
   cases q:H b with
   |none=>rfl
   |some u=>
    have e':b=a:=hA b (by rw[q];simp);subst e';rw[hK (by rw[q];simp)]at e;cases e)
  have hM:Mod K mg (X9 s₁.heap H):=⟨hKb,nsK hns,⟨mb,nsK hb,hbb⟩,let ⟨mc,h1,h2⟩:=hlim;⟨mc,nsK h1,h2⟩⟩
  have e0:Env0 P w K mg (X9 s₁.heap H) callerA [] s₁ H:=⟨rfl,hM,λb o e=>qAU e,Nat.le_of_eq (P7 _ _),trivial,λb hb=>absurd (show b∈([]:List Addr) from hb) (by simp),hok,.of_eq hg⟩
  refine codeAny_mono ((F _ hKb (nsK hns)).run callerA [] s₁ H ⟨[.ref a],[]⟩ [.ref a] [.ref a] _ _ hr e0 (hbind s₁ (.ref a)) (.cons rfl .nil) (hsp H hO hS)) λr s' h=>?_;cases r with
  |error e=>exact(hCX H e s' h).elim
  |ok fl=>
   cases fl with
   |next=>exact False.elim h
   |brk=>exact False.elim h
   |cont=>exact False.elim h
   |ret u=>
    obtain⟨v,H',os,bare,un,hok',r',q⟩:=h;have q':v=.bl true:=q;subst q';obtain rfl:u=Value.bool true:=r';refine⟨rfl,OldK.of_keep λb o e=>?_,os,bare⟩;cases q:H b with
    |none=>exact un.keep b o e q (by intro z;exact absurd (show b∈([]:List Addr) from z) (by simp)) (by simp)
    |some u=>
     rcases hO b with z|⟨ob,xs,z⟩
     ·rw[q]at z;cases z
     ·have z2:=un.frzs b ob _ z;obtain⟨e1,_⟩:=hok b _ z;obtain⟨e2,_⟩:=hok' b _ z2;rw[e]at e1;cases e1;exact e2
 cases hk:K.lookup a with
 |some o=>
  have e:=KX a o hk;rw[ha]at e;cases e;refine core (λ_=>none) (λ_=>.inl rfl) (.inr ⟨_,vs.toArray,_,hk,rfl,rfl,rfl,by rw[wC,lenV];exact hl,by simpa using rv⟩) (λb u z=>by have z':(none:Option HO)=some u:=z;cases z') (λb z=>absurd rfl z) λz=>absurd rfl z
 |none=>
  refine core (λb=>if b=a then some (.frz { cls:=.type "list",data:=.seq vs.toArray } (.lst (ns.map V.int))) else none) (λb=>?_) (.inl (.inr ⟨{ cls:=.type "list",data:=.seq vs.toArray },if_pos rfl⟩)) (λb u z=>?_) (λb z=>?_) λ_=>hk
  ·by_cases hb:b=a
   ·exact .inr ⟨_,_,if_pos hb⟩
   ·exact .inl (if_neg hb)
  ·by_cases hb:b=a
   ·have z':=(if_pos hb).symm.trans z;cases z';subst hb;exact⟨ha,by rw[wR];exact hl,vs,_,rv,ha⟩
   ·have z':=(if_neg hb).symm.trans z;cases z'
  ·by_cases hb:b=a
   ·exact hb
   ·exact absurd (if_neg hb) z
theorem walk_of{l:PySem.W.OpenLaw}{n k:Nat}{q:Program}{loose:List Str}{XP:(Str->Option Value)->Heap->Prop}{YP:World->Heap->Prop}{d:DefRec}{K:Params->PySem.W.Frag}{CX:World->CXT}{sp:World->Sp}{x:Str}
  (hn:l.most=some n) (hn2:n<=sizeLine) (hdf:d.params.defaults=[]) (hr:Room k callerA)
  (hY:∀(w:World) (h:Heap),YP w h->(K w.params).In h)
  (F:∀(w:World) (mg:Str->Option Value) (fa:Addr) (h:Heap),(K w.params).In h->h.Ns mainGlobals mg->mg d.name=some (.ref fa) ->
   ∃fd:FuncData,(∀(s:Shared) (u:Value),BindsTo s fd ⟨[u],[]⟩ [(x,u)])/\
    ∀base:Heap,(K w.params).In base->base.Ns mainGlobals mg->FnOk l.prog w (K w.params) mg base (CX w) k fa fd [x] (sp w))
  (hsp:∀(w:World) (H:Hp) (a:Addr) (ns:List Int),ns.length<=n->Only H->SqL (K w.params) H a (ns.map V.int)->sp w [.ref a] H (λv _=>v=.bl true) λ_ _ _=>False)
  (hCX:∀(w:World) (H:Hp) (s:Shared) (e:Value) (s':Shared),CX w [] H s (λ_ _ _=>False) e s'->False):
  PySem.W.WalkO q loose XP YP l.row.toRowW d [] (λf vs=>PySem.call f vs):=by
 refine Att.attach_call hn hdf λw s₀ s₁ mg mb fa o pm cd doc a vs ns G Y ho hd hcd hmg hobj hints hlen hg=>?_;have KX:=hY w _ Y;obtain⟨fd,hb,hF⟩:=F w mg fa _ KX G.T.g hmg;exact Z0 KX G.T.g G.T.b G.T.builtins G.T.nolimit hg hobj hints (Nat.le_trans hlen hn2) hr hF hb (λH hO hS=>hsp w H a ns hlen hO hS) λH e s'=>hCX w H s₁ e s'
noncomputable def zF(s:Stmt):Arguments:=match s with
 | .FunctionDef _ a _ _ _ _ _ _ _ _=>a
 |_=>{ posonlyargs:=[],args:=[],vararg:=none,kwonlyargs:=[],kw_defaults:=[],kwarg:=none,defaults:=[] }
noncomputable def defBody(s:Stmt):List Stmt:=match s with
 | .FunctionDef _ _ b _ _ _ _ _ _ _=>b
 |_=>[]
noncomputable def defScope(s:Stmt):Scope:=match s with
 | .FunctionDef _ _ _ _ _ _ sc _ _ _=>sc
 |_=>{ kind:=.function,names:=[],isGenerator:=false,isCoroutine:=false }
noncomputable abbrev CX0:CXT:=λ_ _ _ _ _ _=>False
noncomputable abbrev E0:XK:=λ_ _ _=>False
theorem pass0{X:Cx}:E3 CX0 X E0:=λ_ _ _ _ _ _ _ h=>h.elim
structure Fun(K:PySem.W.Frag)(x qual:Str)(st:Stmt)(f:Addr)(fd:FuncData):Prop where
 ex:∃(oc:Value) (od:Option Addr) (kV doc pm:Value) (an:Option Addr) (cdv ct:Value) (osl:Array (Option Value)),
  fd=PySem.W.fnOf x qual (zF st) (defBody st) (defScope st) .none kV doc pm an cdv ct/\K.lookup f=some ⟨oc,od,.func fd,osl⟩/\PySem.W.codeIn K cdv qual=true
 kp:PySem.W.keepIn K (.ref f)=true
section
variable{P:Program}{w:World}{K:PySem.W.Frag}{mg:Str->Option Value}{base:Heap}
theorem Fun.ok{x qual:Str}{st:Stmt}{f:Addr}{fd:FuncData}{N ps:List Str}{k:Nat}{sp:Sp}(F:Fun K x qual st f fd)(S:qr N ps (defScope st))(len:∀vs H Q E,sp vs H Q E->vs.length=ps.length)
  (hbody:∀(cdv:Value) (A:Around) (outer:List Env) (s:Shared) (H:Hp) (vs:List V) (Q:VK) (E:XK),Room k (A.deeper (envOfC qual (defScope st) s.heap.objs.size f cdv))->sp vs H Q E ->
   ∃t,PSs (cxOf CX0 P w K mg base N qual (defScope st) f cdv A outer s H E).nox (defBody st) t/\t { nx:=λ_ H'=>Q .non H',rt:=Q } (start N vs) H):FnOk P w K mg base CX0 (k+1) f fd ps sp:=by
 obtain⟨oc,od,kV,doc,pm,an,cdv,ct,osl,rfl,lk,hcd⟩:=F.ex;refine qCx lk hcd S len λA outer s H vs Q E hr hsp=>?_;obtain⟨t,h,q⟩:=hbody cdv A outer s H vs Q E hr hsp;exact⟨t,h.nox,q⟩
theorem Fun.binds{x qual:Str}{st:Stmt}{f:Addr}{fd:FuncData}{ps:List Str}(F:Fun K x qual st f fd)
  (h:∀(kV doc pm:Value) (an:Option Addr) (cdv ct:Value) (us:List Value),us.length=ps.length->bindArgs (PySem.W.fnOf x qual (zF st) (defBody st) (defScope st) .none kV doc pm an cdv ct) ⟨us,[]⟩=pure (ps.zip us)):Binds K fd ps []:=by
 obtain⟨oc,od,kV,doc,pm,an,cdv,ct,osl,rfl,lk,hcd⟩:=F.ex;exact .all (h kV doc pm an cdv ct)
theorem i9{x qual:Str}{st:Stmt}{f:Addr}{oc:Value}{od an:Option Addr}{osl:Array (Option Value)}{kV doc pm cdv ct:Value}(l:K.lookup f=some ⟨oc,od,.func (PySem.W.fnOf x qual (zF st) (defBody st) (defScope st) .none kV doc pm an cdv ct),osl⟩)
  (c:PySem.W.codeIn K cdv qual=true) (k:PySem.W.keepIn K (.ref f)=true):Fun K x qual st f (PySem.W.fnOf x qual (zF st) (defBody st) (defScope st) .none kV doc pm an cdv ct):=⟨⟨oc,od,kV,doc,pm,an,cdv,ct,osl,rfl,l,c⟩,k⟩
end
def Qx(H H':Hp):Prop:=∀b o,H b=some o->H' b=some o
section
variable{κ:Type}[DecidableEq κ]
noncomputable def valV(kvs:List (κ×V))(k:κ):Option V:=(kvs.find? λkv=>decide (kv.1=k)).map (·.2)
noncomputable def putK(kvs:List (κ×V))(k:κ)(v:V):List (κ×V):=
 if (kvs.any λkv=>decide (kv.1=k))=true then kvs.map (λkv=>if kv.1=k then (kv.1,v) else kv) else kvs++[(k,v)]
noncomputable def qCL(kvs:List (κ×V))(k:κ):List (κ×V):=kvs.filter λkv=>decide (kv.1≠k)
theorem JB{p:κ×V}{r:List (κ×V)}{k:κ}(e:p.1=k):valV (p::r) k=some p.2:=by simp[valV,List.find?_cons,e]
theorem Zk{p:κ×V}{r:List (κ×V)}{k:κ}(e:¬ p.1=k):valV (p::r) k=valV r k:=by simp[valV,List.find?_cons,e]
theorem valV_any(k:κ):∀kvs:List (κ×V),(kvs.any λkv=>decide (kv.1=k))=(valV kvs k).isSome
 | []=>rfl
 |p::r=>by
  rw[List.any_cons];by_cases e:p.1=k
  ·simp only[JB e,vX e,Bool.true_or,Option.isSome_some]
  ·rw[Zk e,vW e,Bool.false_or];exact valV_any k r
theorem QT(kvs:List (κ×V))(k:κ)(v:V):(putK kvs k v).length<=kvs.length+1:=by
 unfold putK;split
 ·rw[wR];omega
 ·rw[List.length_append,List.length_cons,List.length_nil];omega
theorem RelO.isSome_eq{o:Option V}{u:Option Value}(r:RelO o u):o.isSome=u.isSome:=by
 cases o with
 |none=>cases u with
  |none=>rfl
  |some _=>exact(show False from r).elim
 |some _=>cases u with
  |none=>exact(show False from r).elim
  |some _=>rfl
theorem RelO.getD{o:Option V}{u:Option Value}{d:V}{d':Value}(r:RelO o u)(rd:RelV d d'):RelV (o.getD d) (u.getD d'):=by
 cases o with
 |none=>cases u with
  |none=>exact rd
  |some _=>exact(show False from r).elim
 |some _=>cases u with
  |none=>exact(show False from r).elim
  |some _=>exact r
theorem KV.val{kvs:List (κ×V)}{vs:List (κ×Value)}(r:KV kvs vs)(k:κ):RelO (valV kvs k) (valueAt vs k):=by
 unfold KV at r
 induction r with
 |nil=>exact True.intro
 | @cons p q ps qs h t ih=>
  obtain⟨h1,h2⟩:=h;by_cases e:p.1=k
  ·have e':q.1=k:=h1.symm.trans e;have b:valueAt (q::qs) k=some q.2:=by simp[valueAt,List.find?_cons,e']
   rw[JB e,b];exact h2
  ·have e':¬ q.1=k:=λz=>e (h1.trans z);have b:valueAt (q::qs) k=valueAt qs k:=by simp[valueAt,List.find?_cons,e']
   rw[Zk e,b];exact ih
theorem KV.any{kvs:List (κ×V)}{vs:List (κ×Value)}(r:KV kvs vs)(k:κ):(kvs.any λkv=>decide (kv.1=k))=vs.any λkv=>decide (kv.1=k):=by
 unfold KV at r
 induction r with
 |nil=>rfl
 |cons h t ih=>rw[List.any_cons,List.any_cons,ih,h.1]
theorem KV.repl{kvs:List (κ×V)}{vs:List (κ×Value)}(r:KV kvs vs)(k:κ){y:V}{u:Value}(ry:RelV y u):
  KV (kvs.map λkv=>if kv.1=k then (kv.1,y) else kv) (vs.map λkv=>if kv.1=k then (kv.1,u) else kv):=by
 unfold KV at r ⊢
 induction r with
 |nil=>exact .nil
 | @cons p q ps qs h t ih=>
  rw[List.map_cons,List.map_cons];refine .cons ?_ ih;obtain⟨h1,h2⟩:=h;by_cases e:p.1=k
  ·rw[if_pos e,if_pos (h1.symm.trans e)];exact⟨h1,ry⟩
  ·rw[if_neg e,if_neg (λz=>e (h1.trans z))];exact⟨h1,h2⟩
theorem KV.put{kvs:List (κ×V)}{vs:List (κ×Value)}(r:KV kvs vs)(k:κ){y:V}{u:Value}(ry:RelV y u):KV (putK kvs k y) (stored vs k u):=by
 unfold putK stored;rw[r.any k];by_cases e:(vs.any λkv=>decide (kv.1=k))=true
 ·rw[if_pos e,if_pos e];exact r.repl k ry
 ·rw[if_neg e,if_neg e];exact Paired.snoc r ⟨rfl,ry⟩
theorem KV.drop{kvs:List (κ×V)}{vs:List (κ×Value)}(r:KV kvs vs)(k:κ):KV (qCL kvs k) (without vs k):=by
 unfold KV at r ⊢;unfold qCL without
 induction r with
 |nil=>exact .nil
 | @cons p q ps qs h t ih=>
  obtain⟨h1,h2⟩:=h;rw[List.filter_cons,List.filter_cons];by_cases e:p.1=k
  ·have a:¬ decide (p.1≠k)=true:=by simp[e]
   have b:¬ decide (q.1≠k)=true:=by simp[h1.symm.trans e]
   rw[if_neg a,if_neg b];exact ih
  ·have e':¬ q.1=k:=λz=>e (h1.trans z);have a:decide (p.1≠k)=true:=by simp[e]
   have b:decide (q.1≠k)=true:=by simp[e']
   rw[if_pos a,if_pos b];exact .cons ⟨h1,h2⟩ ih
theorem KV.length{kvs:List (κ×V)}{vs:List (κ×Value)}(r:KV kvs vs):kvs.length=vs.length:=Paired.length r
end
theorem g7{P:Program}{w:World}{k:Key}{u:Value}(r:RelV (kV k) u):(qm P w).is k u=true:=by
 cases k with
 |inl i=>obtain⟨t,e⟩:=(show ∃t,u=Value.int i t from r);subst e;exact A0 P w i t
 |inr x=>obtain⟨t,e⟩:=(show ∃t,u=Value.str x t from r);subst e;exact A2 P w x t
theorem Ja{P:Program}{w:World}:∀{ks:List Key}{us:List Value},Vals (ks.map kV) us->ItemsAre (qm P w) ks us
 | [],_,r=>by rw[List.map_nil]at r;cases r;exact .nil
 |k::ks,_,r=>by
  rw[List.map_cons]at r;cases r with
  |cons h t=>exact .cons (g7 h) (Ja t)
abbrev KT(H:Hp):List (List Key×V)->List (List Key×Addr×Value)->Prop:=Paired λp q=>p.1=q.1/\H q.2.1=some (.tup (p.1.map kV))/\RelV p.2 q.2.2
theorem KT.val{H:Hp}{kvs:List (List Key×V)}{xs:List (List Key×Addr×Value)}(r:KT H kvs xs)(k:List Key):RelO (valV kvs k) ((atKey xs k).map (·.2)):=by
 induction r with
 |nil=>exact True.intro
 | @cons p q ps qs h t ih=>
  obtain⟨h1,_,h2⟩:=h;by_cases e:p.1=k
  ·have e':q.1=k:=h1.symm.trans e;have b:atKey (q::qs) k=some q.2:=by simp[atKey,List.find?_cons,e']
   rw[JB e,b];exact h2
  ·have e':¬ q.1=k:=λz=>e (h1.trans z);have b:atKey (q::qs) k=atKey qs k:=by simp[atKey,List.find?_cons,e']
   rw[Zk e,b];exact ih
theorem KT.repl{H:Hp}{kvs:List (List Key×V)}{xs:List (List Key×Addr×Value)}(r:KT H kvs xs)(k:List Key){y:V}{u:Value}(ry:RelV y u):
  KT H (kvs.map λkv=>if kv.1=k then (kv.1,y) else kv) (xs.map (putAt k u)):=by
 induction r with
 |nil=>exact .nil
 | @cons p q ps qs h t ih=>
  rw[List.map_cons,List.map_cons];refine .cons ?_ ih;obtain⟨h1,h2,h3⟩:=h;unfold putAt;by_cases e:p.1=k
  ·rw[if_pos e,if_pos (h1.symm.trans e)];exact⟨h1,h2,ry⟩
  ·rw[if_neg e,if_neg (λz=>e (h1.trans z))];exact⟨h1,h2,h3⟩
theorem KT.put{H:Hp}{kvs:List (List Key×V)}{xs:List (List Key×Addr×Value)}(r:KT H kvs xs)(k:List Key){b:Addr}{y:V}{u:Value}(hb:H b=some (.tup (k.map kV)))(ry:RelV y u):
  KT H (putK kvs k y) (storedH xs k b u):=by
 have e:(kvs.any λkv=>decide (kv.1=k))=(atKey xs k).isSome:=by
  rw[valV_any,(r.val k).isSome_eq,Option.isSome_map]
 unfold putK storedH;rw[e];by_cases q:(atKey xs k).isSome=true
 ·rw[if_pos q,if_pos q];exact r.repl k ry
 ·rw[if_neg q,if_neg q];exact Paired.snoc r ⟨rfl,hb,ry⟩
theorem KT.keeps{H H':Hp}{kvs:List (List Key×V)}{xs:List (List Key×Addr×Value)}(r:KT H kvs xs)(ht:∀b ys,H b=some (.tup ys)->H' b=some (.tup ys)):KT H' kvs xs:=
 Paired.mapP r λ_ _ z=>⟨z.1,ht _ _ z.2.1,z.2.2⟩
section
variable{P:Program}{w:World}{H:Hp}{h:Heap}{a:Addr}
theorem qCR{u:HO}(ok:HOk P w H h)(e:Rd H a u):ObjOk P w H h a u:=e.ok ok
theorem v7{kvs:List (Key×V)}(ok:HOk P w H h)(e:Rd H a (.dK kvs)):kvs.length<=sizeLine/\(a==sysModules)=false/\∃vs,KV kvs vs/\h.DictOf (qm P w) a vs:=
 show ObjOk P w H h a (.dK kvs) from qCR ok e
theorem qDY{kvs:List (Key×V)}(ok:HOk P w H h)(e:H a=some (.dK kvs)):kvs.length<=sizeLine/\(a==sysModules)=false/\∃vs,KV kvs vs/\h.DictOf (qm P w) a vs:=v7 ok (.inl e)
theorem E8{ks:List Key}(ok:HOk P w H h)(e:H a=some (.tup (ks.map kV))):(tupleKind (qm P w)).is h ks a:=by
 obtain⟨_,its,r,o,h1,h2,n,h3⟩:=(show ObjOk P w H h a (.tup (ks.map kV)) from ok a _ e)
 exact⟨o,its.toArray,n,h1,h2,h3,by simpa using Ja r⟩
theorem qAD{kvs:List (List Key×V)}(ok:HOk P w H h)(e:Rd H a (.dT kvs)):kvs.length<=sizeLine/\(a==sysModules)=false/\
  ∃xs,KT H kvs xs/\h.DictOfH (tupleKind (qm P w)) a xs:=by
 obtain⟨z,y,xs,r,o,es,ep,h1,h2,h3,h4,h5⟩:=(show ObjOk P w H h a (.dT kvs) from qCR ok e)
 refine⟨z,y,xs,r,o,es,ep,h1,h2,h3,h4,λx hx=>?_,h5⟩;have all:∀{l:List (List Key×V)}{m:List (List Key×Addr×Value)},KT H l m->∀x∈m,(tupleKind (qm P w)).is h x.1 x.2.1:=by
  intro l m q
  induction q with
  |nil=>intro x hx;exact nomatch hx
  | @cons p q ps qs hq t ih=>
   intro x hx;rcases List.mem_cons.mp hx with e|hx
   ·subst e;exact E8 ok (by rw[<-hq.1];exact hq.2.1)
   ·exact ih x hx
 exact all r x hx
theorem qDS{kvs:List (List Key×V)}(ok:HOk P w H h)(e:H a=some (.dT kvs)):kvs.length<=sizeLine/\(a==sysModules)=false/\
  ∃xs,KT H kvs xs/\h.DictOfH (tupleKind (qm P w)) a xs:=qAD ok (.inl e)
end
def DGet(H:Hp)(a:Addr)(y:V)(r:Option V):Prop:=
 (∃kvs k,Rd H a (.dK kvs)/\y=kV k/\r=valV kvs k)\/∃kvs k b,Rd H a (.dT kvs)/\y=.ref b/\H b=some (.tup (k.map kV))/\r=valV kvs k
def DPut(H:Hp)(a:Addr)(y v:V)(H':Hp):Prop:=
 (∃kvs k,H a=some (.dK kvs)/\y=kV k/\kvs.length<sizeLine/\H'=upd H a (.dK (putK kvs k v)))\/
 ∃kvs k b,H a=some (.dT kvs)/\y=.ref b/\H b=some (.tup (k.map kV))/\kvs.length<sizeLine/\H'=upd H a (.dT (putK kvs k v))
theorem DGet.k{H:Hp}{a:Addr}{kvs:List (Key×V)}{k:Key}(e:H a=some (.dK kvs)):DGet H a (kV k) (valV kvs k):=.inl ⟨kvs,k,.inl e,rfl,rfl⟩
theorem DGet.t{H:Hp}{a b:Addr}{kvs:List (List Key×V)}{k:List Key}(e:H a=some (.dT kvs))(eb:H b=some (.tup (k.map kV))):DGet H a (.ref b) (valV kvs k):=.inr ⟨kvs,k,b,.inl e,rfl,eb,rfl⟩
theorem DPut.k{H:Hp}{a:Addr}{kvs:List (Key×V)}{k:Key}{v:V}(e:H a=some (.dK kvs))(hl:kvs.length<sizeLine):DPut H a (kV k) v (upd H a (.dK (putK kvs k v))):=.inl ⟨kvs,k,e,rfl,hl,rfl⟩
theorem DPut.t{H:Hp}{a b:Addr}{kvs:List (List Key×V)}{k:List Key}{v:V}(e:H a=some (.dT kvs))(eb:H b=some (.tup (k.map kV)))(hl:kvs.length<sizeLine):
  DPut H a (.ref b) v (upd H a (.dT (putK kvs k v))):=.inr ⟨kvs,k,b,e,rfl,eb,hl,rfl⟩
section
variable{X:Cx}{pins:List (Addr×Obj)}{σ:St}{H:Hp}{s:Shared}{a:Addr}{y v:V}{u r:Value}{o:Option V}{A:Around}{E:Value->Shared->Prop}
theorem d_in{Q:Value->Shared->Prop}(hu:A.units+1<cLine)(I:Inv X pins σ H s)(g:DGet H a y o)(ry:RelV y u)(h:∀s',Inv X pins σ H s'->Q (.bool o.isSome) s'):
  wpAny (model X.prog X.w) A (compareOp .In u (.ref a)) Q E s:=by
 rcases g with⟨kvs,k,e,ey,l⟩|⟨kvs,k,b,e,ey,eb,l⟩
 ·subst ey;obtain⟨z,hd,vs,rel,dd⟩:=v7 I.hok e;refine wpAny_in_of (g7 ry) hd dd.mapOf ?_;rw[<-(rel.val k).isSome_eq,<-l];exact h _ (I.tok _)
 ·subst ey;cases (show u=Value.ref b from ry);obtain⟨z,hd,xs,rel,dd⟩:=qAD I.hok e;refine wpAny_in_heap (tupleKind_room_in1 hu) (E8 I.hok eb) hd dd ?_;have q:=(rel.val k).isSome_eq;rw[Option.isSome_map]at q;rw[<-q,<-l];exact h _ (I.tok _)
theorem d_notIn{Q:Value->Shared->Prop}(hu:A.units+1<cLine)(I:Inv X pins σ H s)(g:DGet H a y o)(ry:RelV y u)(h:∀s',Inv X pins σ H s'->Q (.bool (!o.isSome)) s'):
  wpAny (model X.prog X.w) A (compareOp .NotIn u (.ref a)) Q E s:=by
 rcases g with⟨kvs,k,e,ey,l⟩|⟨kvs,k,b,e,ey,eb,l⟩
 ·subst ey;obtain⟨z,hd,vs,rel,dd⟩:=v7 I.hok e;refine wpAny_notIn_of (g7 ry) hd dd.mapOf ?_;rw[<-(rel.val k).isSome_eq,<-l];exact h _ (I.tok _)
 ·subst ey;cases (show u=Value.ref b from ry);obtain⟨z,hd,xs,rel,dd⟩:=qAD I.hok e;refine wpAny_notIn_heap (tupleKind_room_in1 hu) (E8 I.hok eb) hd dd ?_;have q:=(rel.val k).isSome_eq;rw[Option.isSome_map]at q;rw[<-q,<-l];exact h _ (I.tok _)
theorem P6{h':Heap}{t':Nat}{ob:HO}(I:Inv X pins σ H s)(mu:Mut (H a))(hs:Heap.SameBut a s.heap h')(he:∃q,h'.get? a=some q)(new:ObjOk X.prog X.w (upd H a ob) h' a ob):
  Inv X pins σ (upd H a ob) { s with heap:=h',toks:=t' }:=
 I.write (x:=a) (e:=a) mu (.inl rfl) (λb q hb z=>(hs.2 b hb).trans z) he new
theorem qBR{P:Program}{w:World}{H':Hp}{h':Heap}{kvs:List (Key×V)}{vs:List (Key×Value)}(z:kvs.length<=sizeLine)(hd:(a==sysModules)=false)(rel:KV kvs vs)(dd:h'.DictOf (qm P w) a vs):
  ObjOk P w H' h' a (.dK kvs):=⟨z,hd,vs,rel,dd⟩
theorem d_setItem{H':Hp}{Q:Unit->Shared->Prop}(hu:A.units+1<cLine)(I:Inv X pins σ H s)(g:DPut H a y v H')(ry:RelV y u)(rv:RelV v r)(h:∀s',Inv X pins σ H' s'->Q () s'):
  wpAny (model X.prog X.w) A (setItem (.ref a) u r) Q E s:=by
 rcases g with⟨kvs,k,e,ey,l,eH⟩|⟨kvs,k,b,e,ey,eb,l,eH⟩
 ·subst ey eH;obtain⟨z,hd,vs,rel,dd⟩:=qDY I.hok e;have hz:vs.length<=sizeLine:=by rw[<-rel.length];exact z
  have hl:(putK kvs k v).length<=sizeLine:=by have:=QT kvs k v;omega
  refine wpAny_setItem_pairs (hsz:=hz) (g7 ry) dd λh' dd' hs=>h _ ?_;have he:∃q,h'.get? a=some q:=let ⟨q,_,_,hq,_⟩:=dd';⟨q,hq⟩
  exact P6 I (by rw[e];exact True.intro) hs he (qBR hl hd (rel.put k rv) dd')
 ·subst ey eH;cases (show u=Value.ref b from ry);obtain⟨z,hd,xs,rel,dd⟩:=qDS I.hok e;have hz:xs.length<=sizeLine:=by rw[<-Paired.length rel];exact z
  have hl:(putK kvs k v).length<=sizeLine:=by have:=QT kvs k v;omega
  refine wpAny_setItem_heap (hsz:=hz) (tupleKind_room_in1 hu) (E8 I.hok eb) dd λh' dd' hs=>h _ ?_;obtain⟨q,es,ep,hq,h2,h3,h4,_,h5⟩:=dd';refine P6 I (by rw[e];exact True.intro) hs ⟨q,hq⟩ ⟨hl,hd,_,(rel.put k eb rv).keeps λc ys ec=>?_,q,es,ep,hq,h2,h3,h4,h5⟩;rw[qE (qC5 ec e (λz=>nomatch z))];exact ec
end
noncomputable def qBm(kvs more:List (Key×V)):List (Key×V):=more.foldl (λacc kv=>putK acc kv.1 kv.2) kvs
structure M1(X:Cx)(o:Expr)(m:Str)(apos:Pos)(e:Expr)(cpos:Pos):Prop where
 base:attributeBase o m X.env (eval o X.env)=eval o X.env
 few:((backTo cpos (starEach [e] X.env)).all (λx=>!x.1)&&(backToKw cpos (keywordEach [] X.env)).all (λx=>x.1.isSome)
  && decide (([e]:List Expr).length+([]:List Keyword).length+(if ([]:List Keyword).isEmpty then 0 else 1)<30))=true
 line:(apos.endLine==cpos.line)=true
 trees:backTo cpos (starEach [e] X.env)=[(false,eval e X.env)]
structure M2(X:Cx)(o:Expr)(m:Str)(apos:Pos)(e f:Expr)(cpos:Pos):Prop where
 base:attributeBase o m X.env (eval o X.env)=eval o X.env
 few:((backTo cpos (starEach [e,f] X.env)).all (λx=>!x.1)&&(backToKw cpos (keywordEach [] X.env)).all (λx=>x.1.isSome)
  && decide (([e,f]:List Expr).length+([]:List Keyword).length+(if ([]:List Keyword).isEmpty then 0 else 1)<30))=true
 line:(apos.endLine==cpos.line)=true
 trees:backTo cpos (starEach [e,f] X.env)=[(false,eval e X.env),(false,eval f X.env)]
end L2
set_option maxHeartbeats 4000000
namespace L2
open PySem PySem.Spec PyProof.Rows
theorem KV.len{kvs:List (Key×V)}{vs:List (Key×Value)}(r:KV kvs vs):vs.length=kvs.length:=(Paired.length r).symm
theorem KV.key{kvs:List (Key×V)}{vs:List (Key×Value)}(r:KV kvs vs){i:Nat}{k:Key×V}(e:kvs[i]?=some k):∃v,vs[i]?=some (k.1,v):=by
 induction r generalizing i with
 |nil=>simp at e
 |cons h t ih=>
  cases i with
  |zero=>cases e;exact⟨_,by rw[List.getElem?_cons_zero];congr 1;exact Prod.ext h.1.symm rfl⟩
  |succ i=>exact ih (by simpa using e)
noncomputable def M7(cells:List (Str×Addr)):List (Str×NameKind)->List (Str×Addr)->List (Str×Addr)
 | [],cs=>cs
 | (n,k)::r,cs=>M7 cells r (if k=.free then (match cells.lookup n with|some c=>(n,c)::cs|none=>cs) else cs)
theorem zj{scope:Scope}{env:Env}(h:∀y∈scope.names,y.2=.free->∃c,env.cells.lookup y.1=some c):closureFor scope env=pure (M7 env.cells scope.names []):=by
 simp only[closureFor];generalize scope.names=names at h;have key:∀(names:List (Str×NameKind)) (cs:List (Str×Addr)),(∀y∈names,y.2=.free->∃c,env.cells.lookup y.1=some c) ->
   (forIn names cs λx r=>if (x.2==NameKind.free)=true then do let c <- cellOf env x.1;pure (ForInStep.yield ((x.1,c)::r)) else pure (ForInStep.yield r))=(pure (M7 env.cells names cs):Sem _):=by
  intro names
  induction names with
  |nil=>intro cs _;rfl
  |cons y r ih=>
   intro cs hy;obtain⟨n,k⟩:=y;rw[List.forIn_cons];by_cases hk:k=.free
   ·subst hk;obtain⟨c,hc⟩:=hy (n,.free) List.mem_cons_self rfl;have hc':List.lookup n env.cells=some c:=hc;have e:cellOf env n=pure c:=by unfold cellOf;rw[hc']
    simp only[vb,if_true,e,pure_bind,M7,hc'];exact ih _ λy hm=>hy y (List.mem_cons_of_mem _ hm)
   ·have hb:(k==NameKind.free)=false:=by simpa using hk
    simp only[hb,Bool.false_eq_true,if_false,pure_bind,M7,if_neg hk];exact ih _ λy hm=>hy y (List.mem_cons_of_mem _ hm)
 rw[key names [] h];rfl
theorem j5{cells:List (Str×Addr)}{x:Str}{c:Addr}:∀{names:List (Str×NameKind)}{cs:List (Str×Addr)},(M7 cells names cs).lookup x=some c->cs.lookup x=some c\/cells.lookup x=some c
 | [],cs,h=>.inl h
 | (n,k)::r,cs,h=>by
  unfold M7 at h;rcases j5 h with h2|h2
  ·clear h;by_cases hk:k=.free
   ·rw[if_pos hk]at h2;cases e:cells.lookup n with
    |none=>rw[e]at h2;exact .inl h2
    |some c'=>
     rw[e]at h2;simp only[List.lookup_cons]at h2;cases hx:x==n with
     |true=>
      have hx':x=n:=by simpa using hx
      rw[hx]at h2;subst hx';cases h2;exact .inr e
     |false=>
      rw[hx]at h2;exact .inl h2
   ·rw[if_neg hk]at h2;exact .inl h2
  ·exact .inr h2
theorem h9{cells:List (Str×Addr)}{x:Str}{c:Addr}(hc:cells.lookup x=some c):∀{names:List (Str×NameKind)}{cs:List (Str×Addr)},((x,NameKind.free)∈names\/cs.lookup x=some c)->(∀c',cs.lookup x=some c'->c'=c)->(M7 cells names cs).lookup x=some c
 | [],cs,h,_=>by
  rcases h with h|h
  ·exact nomatch h
  ·exact h
 | (n,k)::r,cs,h,hu=>by
  unfold M7;refine h9 hc ?_ ?_
  ·rcases h with h|h
   ·rcases List.mem_cons.mp h with h|h
    ·cases h;right;rw[if_pos rfl,hc];simp
    ·exact .inl h
   ·right;by_cases hk:k=.free
    ·rw[if_pos hk];cases e:cells.lookup n with
     |none=>exact h
     |some c'=>
      simp only[List.lookup_cons];cases hx:x==n with
      |true=>
       have hx':x=n:=by simpa using hx
       subst hx';rw[hc]at e;cases e;rfl
      |false=>exact h
    ·rw[if_neg hk];exact h
  ·intro c' h';by_cases hk:k=.free
   ·rw[if_pos hk]at h';cases e:cells.lookup n with
    |none=>rw[e]at h';exact hu c' h'
    |some c2=>
     rw[e]at h';simp only[List.lookup_cons]at h';cases hx:x==n with
     |true=>
      have hx':x=n:=by simpa using hx
      subst hx';rw[hx]at h';rw[hc]at e;cases e;cases h';rfl
     |false=>
      rw[hx]at h';exact hu c' h'
   ·rw[if_neg hk]at h';exact hu c' h'
theorem jz{env:Env}:∀{names:List (Str×NameKind)}{x:Str},names.lookup x=some .free ->
  (names.map λ(n,k)=>if (k==NameKind.free&&env.scope.kind==.function&&env.kindOf n==some .cell) then (n,NameKind.cell) else (n,k)).lookup x=some .cell\/
  (names.map λ(n,k)=>if (k==NameKind.free&&env.scope.kind==.function&&env.kindOf n==some .cell) then (n,NameKind.cell) else (n,k)).lookup x=some .free
 | [],_,h=>by simp at h
 | (n,k)::r,x,h=>by
  have ih:=@jz env r x;simp only[List.map_cons];cases hx:x==n with
  |true=>
   simp only[List.lookup_cons,hx]at h;cases h;by_cases hc:(NameKind.free==NameKind.free&&env.scope.kind==.function&&env.kindOf n==some .cell)=true
   ·rw[if_pos hc];left;simp[List.lookup_cons,hx]
   ·rw[if_neg hc];right;simp[List.lookup_cons,hx]
  |false=>
   simp only[List.lookup_cons,hx]at h;by_cases hc:(k==NameKind.free&&env.scope.kind==.function&&env.kindOf n==some .cell)=true
   ·rw[if_pos hc];simp only[List.lookup_cons,hx];exact ih h
   ·rw[if_neg hc];simp only[List.lookup_cons,hx];exact ih h
theorem zo{env:Env}:∀{names:List (Str×NameKind)}{x:Str},
  ((names.map λ(n,k)=>if (k==NameKind.free&&env.scope.kind==.function&&env.kindOf n==some .cell) then (n,NameKind.cell) else (n,k)).lookup x=some .cell\/
  (names.map λ(n,k)=>if (k==NameKind.free&&env.scope.kind==.function&&env.kindOf n==some .cell) then (n,NameKind.cell) else (n,k)).lookup x=some .free)->names.lookup x=some .free\/names.lookup x=some .cell
 | [],_,h=>by simp at h
 | (n,k)::r,x,h=>by
  have ih:=@zo env r x;simp only[List.map_cons]at h;cases hx:x==n with
  |true=>
   simp only[List.lookup_cons,hx];by_cases hc:(k==NameKind.free&&env.scope.kind==.function&&env.kindOf n==some .cell)=true
   ·rw[if_pos hc]at h;have hk:k=.free:=by
     cases k<;>first|rfl|(simp at hc)
    rw[hk];exact .inl rfl
   ·rw[if_neg hc]at h;simp only[List.lookup_cons,hx]at h;exact h.symm
  |false=>
   simp only[List.lookup_cons,hx];by_cases hc:(k==NameKind.free&&env.scope.kind==.function&&env.kindOf n==some .cell)=true
   ·rw[if_pos hc]at h;simp only[List.lookup_cons,hx]at h;exact ih h
   ·rw[if_neg hc]at h;simp only[List.lookup_cons,hx]at h;exact ih h
theorem jI:∀(names:List (Str×NameKind)) (a:Nat) (acc:List (Str×Addr)),cellsFrom a names acc=cellsFrom a names []++acc
 | [],a,acc=>rfl
 | (n,k)::r,a,acc=>by
  unfold cellsFrom;split
  ·rw[jI r (a+1) ((n,a)::acc),jI r (a+1) [(n,a)],List.append_assoc];rfl
  ·exact jI r a acc
theorem Zx{x:Str}{c:Addr}:∀{names:List (Str×NameKind)}{a:Nat},(x,c)∈cellsFrom a names []->(x,NameKind.cell)∈names
 | [],a,h=>nomatch h
 | (n,k)::r,a,h=>by
  unfold cellsFrom at h;split at h
  ·rename_i hk;rw[jI,wD]at h;rcases h with h|h
   ·exact List.mem_cons_of_mem _ (Zx h)
   ·have:(x,c)=(n,a):=wQ.mp h;cases this;rw[beq_iff_eq.mp hk];exact List.mem_cons_self
  ·exact List.mem_cons_of_mem _ (Zx h)
theorem C4{x:Str}:∀{names:List (Str×NameKind)}{a:Nat},(x,NameKind.cell)∈names->∃c,(cellsFrom a names []).lookup x=some c
 | [],a,h=>nomatch h
 | (n,k)::r,a,h=>by
  unfold cellsFrom;rcases List.mem_cons.mp h with h|h
  ·cases h;rw[if_pos (by decide),jI,wm];cases (cellsFrom (a+1) r []).lookup x with
   |none=>exact⟨a,by simp⟩
   |some c=>exact⟨c,rfl⟩
  ·split
   ·obtain⟨c,hc⟩:=C4 (a:=a+1) h;exact⟨c,by rw[jI,wm,hc];rfl⟩
   ·exact C4 h
noncomputable def zq(X:Cx)(scope:Scope)(C:Addr):List (Str×Addr):=cellsFrom (C+1) scope.names (M7 X.env.cells scope.names [])
noncomputable def cxComp(X:Cx)(scope:Scope)(C:Addr)(fp:List Addr)(s₂:Shared)(H₂:Hp)(N:List Str):Cx:=
 { X with N:=N,s₀:=s₂,H₀:=H₂,env:=compEnvC scope (zq X scope C) C X.env,outer:=X.stack,ex:=fp,fn:=λx=>decide (scope.names.lookup x=some .cell),pn:=[],xe:=λ_ _=>False }
noncomputable def inner(src:List (Option Nat))(σ:St):St:=src.map λo=>match o with|none=>none|some j=>(σ[j]?).join
structure CompScope(X:Cx)(scope:Scope)(N:List Str)(src:List (Option Nat)):Prop where
 kind:scope.kind=.function
 uniq:∀y∈scope.names,scope.names.lookup y.1=some y.2
 frees:∀y∈scope.names,y.2=NameKind.free->X.env.kindOf y.1=some .cell\/X.env.kindOf y.1=some .free
 nd:N.Nodup
 len:src.length=N.length
 from_:∀(i:Nat) x j,N[i]?=some x->src[i]?=some (some j)->X.N[j]?=some x/\scope.names.lookup x=some .free
theorem qc{x:Str}{k:NameKind}:∀{names:List (Str×NameKind)},names.lookup x=some k->(x,k)∈names
 | [],h=>by simp at h
 | (n,k')::r,h=>by
  cases hx:x==n with
  |true=>
   simp only[List.lookup_cons,hx]at h;have hx':x=n:=by simpa using hx
   cases h;subst hx';exact List.mem_cons_self
  |false=>
   simp only[List.lookup_cons,hx]at h;exact List.mem_cons_of_mem _ (qc h)
section
variable{X:Cx}{pins:List (Addr×Obj)}{σ:St}{H₂:Hp}{s₂:Shared}{scope:Scope}{N:List Str}{src:List (Option Nat)}{fp:List Addr}
theorem CompScope.cells(S:CompScope X scope N src)(ok:X.Ok):∀y∈scope.names,y.2=.free->∃c,X.env.cells.lookup y.1=some c:=λy hy hk=>ok.has y.1 (S.frees y hy hk)
theorem CompScope.names(S:CompScope X scope N src):∀y∈scope.names,y.2=NameKind.local->scope.names.lookup y.1=some .local:=λy hy hk=>by rw[<-hk];exact S.uniq y hy
theorem qt{C:Addr}{h₁:Heap}(ow:CellsOk h₁ (C+1) (cellsFrom (C+1) scope.names [])){x:Str}{c:Addr}(h:(zq X scope C).lookup x=some c):
  ((x,c)∈cellsFrom (C+1) scope.names []/\(x,NameKind.cell)∈scope.names/\h₁.IsCell c none/\C<c)\/X.env.cells.lookup x=some c:=by
 unfold zq at h;rw[jI,wm]at h;cases e:(cellsFrom (C+1) scope.names []).lookup x with
 |some c'=>
  rw[e]at h;cases h;have m:=PySem.mem_of_lookup e;exact .inl ⟨m,Zx m,(ow.empty x c m).1,(ow.empty x c m).2⟩
 |none=>
  rw[e]at h;rcases j5 (show (M7 X.env.cells scope.names []).lookup x=some c by simpa using h) with h|h
  ·simp at h
  ·exact .inr h
theorem ZJ(S:CompScope X scope N src){C:Addr}{x:Str}{c:Addr}(hf:scope.names.lookup x=some .free)(h:X.env.cells.lookup x=some c):(zq X scope C).lookup x=some c:=by
 unfold zq;rw[jI,wm];have:(cellsFrom (C+1) scope.names []).lookup x=none:=by
  cases e:(cellsFrom (C+1) scope.names []).lookup x with
  |none=>rfl
  |some c'=>
   have:=S.uniq _ (Zx (PySem.mem_of_lookup e));rw[hf]at this;cases this
 rw[this,h9 h (.inl (qc hf)) (by intro c' h';simp at h')];rfl
theorem qAB(S:CompScope X scope N src)(I:Inv X pins σ H₂ s₂)(f2:∀b∈fp,Qy X pins H₂ b)(ob:∀b∈fp,∃o,s₂.heap.get? b=some o/\∀v,o.data≠.cell v){C:Addr}(hC:s₂.heap.objs.size<=C){h₁:Heap}(ow:CellsOk h₁ (C+1) (cellsFrom (C+1) scope.names [])):
  (cxComp X scope C fp s₂ H₂ N).Ok:=by
 have lt:∀x c,X.env.cells.lookup x=some c->c<s₂.heap.objs.size:=λx c h=>let ⟨v,q⟩:=I.cell x c h;q.lt
 refine⟨I.ok.mod,S.kind,I.ok.glob,I.ok.blt,hC,λx y c h1 h2=>?_,λx hx=>?_,λx c hf h=>?_,I.ok.hd,I.ok.frames,.inl rfl,λb hb=>⟨?_,λx c h=>?_⟩,λb o e=>I.bs b o e,?_,λb o e hb=>?_,λb hb=>?_,I.stack,I.stkFree⟩
 ·rcases qt ow h1 with⟨m1,_,_,g1⟩|g1<;>rcases qt ow h2 with⟨m2,_,_,g2⟩|g2
  ·exact PySem.name_of_addr ow.apart m1 m2
  ·exact absurd (wk (wB (lt y c g2) hC) g1) (Nat.lt_irrefl _)
  ·exact absurd (wk (wB (lt x c g1) hC) g2) (Nat.lt_irrefl _)
  ·exact I.ok.inj x y c g1 g2
 ·rcases zo hx with hf|hf
  ·obtain⟨c,hc⟩:=S.cells I.ok (x,.free) (qc hf) rfl;exact⟨c,ZJ S hf hc⟩
  ·obtain⟨c,hc⟩:=C4 (a:=C+1) (qc hf);exact⟨c,by show (zq X scope C).lookup x=_;unfold zq;rw[jI,wm,hc];rfl⟩
 ·have hf':scope.names.lookup x=some .cell:=vZ hf;rcases qt ow h with⟨_,_,_,g⟩|g
  ·exact wj (Nat.lt_of_le_of_lt hC g)
  ·unfold cxComp at h;have h:(zq X scope C).lookup x=some c:=h;obtain⟨c',hc'⟩:=C4 (a:=C+1) (qc hf');have e:(zq X scope C).lookup x=some c':=by unfold zq;rw[jI,wm,hc'];rfl
   rw[e]at h;cases h;have:=(ow.empty x c (PySem.mem_of_lookup hc')).2;exact Nat.le_trans hC (Nat.le_of_succ_le this)
 ·obtain⟨o,e,_⟩:=ob b hb;exact wJ (wB (Heap.lt_size e) hC)
 ·rcases qt ow h with⟨_,_,_,g⟩|g
  ·obtain⟨o,e,_⟩:=ob b hb;exact Nat.ne_of_gt (wk (wB (Heap.lt_size e) hC) g)
  ·exact(f2 b hb).2.2.2.2.1 x c g
 ·exact Nat.le_trans I.ok.bsz I.sz
 ·rcases(f2 b hb).2.2.2.1 with z|z
  ·exact I.ok.noex b o e z
  ·exact absurd (wB (Heap.lt_size e) (Nat.le_trans I.ok.bsz z)) (Nat.lt_irrefl _)
 ·intro hz;rcases List.mem_cons.mp (I.stkSub b hz) with e|e
  ·exact(f2 b hb).2.1 e
  ·exact(f2 b hb).2.2.1 e
theorem Zl(S:CompScope X scope N src)(I:Inv X pins σ H₂ s₂)(f2:∀b∈fp,Qy X pins H₂ b)(ob:∀b∈fp,∃o,s₂.heap.get? b=some o/\∀v,o.data≠.cell v){C:Addr}{h₁:Heap}{m:Str->Option Value}{tk n:Nat}
  (hC:s₂.heap.objs.size<C) (keep:∀b o,s₂.heap.get? b=some o->h₁.get? b=some o) (hD:h₁.get? s₂.heap.objs.size=some { cls:=.type "list",data:=.seq #[] n }) (hn:h₁.Ns C m) (ow:CellsOk h₁ (C+1) (cellsFrom (C+1) scope.names [])):
  Inv (cxComp X scope C fp s₂ H₂ N) [] (inner src σ) (upd H₂ s₂.heap.objs.size (.lst [])) { s₂ with heap:=h₁,toks:=tk }:=by
 have lt:∀x c,X.env.cells.lookup x=some c->c<s₂.heap.objs.size:=λx c h=>let ⟨v,q⟩:=I.cell x c h;q.lt
 have hfr:H₂ s₂.heap.objs.size=none:=I.hok.fresh (Nat.le_refl _);refine⟨qAB S I f2 ob (wj hC) ow,rfl,I.bare,Un.laid keep (Nat.le_refl _) hfr,⟨m,hn,λi x v e1 e2 e3=>?_⟩,λx c h=>?_,?_,λx c h=>?_,λp hp=>absurd (show p∈([]:List (Addr×Obj)) from hp) (by simp),I.hok.laid keep (Nat.le_refl _) ⟨by simp,[],n,.nil,hD⟩,?_⟩
 ·have e2':(inner src σ)[i]?=some (some v):=e2;unfold inner at e2';rw[wP]at e2';cases q:src[i]? with
  |none=>rw[q]at e2';cases e2'
  |some o=>
   rw[q]at e2';cases o with
   |none=>cases e2'
   |some j=>
    have ej:(σ[j]?).join=some v:=Option.some.inj e2';have ej':σ[j]?=some (some v):=by
     cases z:σ[j]? with
     |none=>rw[z]at ej;cases ej
     |some w=>rw[z]at ej;exact congrArg some ej
    obtain⟨n1,n2⟩:=S.from_ i x j e1 q;obtain⟨m0,hn0,hl⟩:=I.loc;have hfr':=S.frees (x,.free) (qc n2) rfl;obtain⟨u,r,l⟩:=hl j x v n1 ej' (by rcases hfr' with z|z;exact .inr (.inl z);exact .inr (.inr z));refine⟨u,r,.inr ⟨jz n2,?_⟩⟩;rcases l with⟨k,_⟩|⟨_,c,hc,o,ho,hd⟩
    ·have k':X.env.kindOf x=some .local:=k;rcases hfr' with z|z
     ·have z':X.env.kindOf x=some .cell:=z;rw[k']at z';cases z'
     ·have z':X.env.kindOf x=some .free:=z;rw[k']at z';cases z'
    ·exact⟨c,ZJ S n2 hc,o,keep c o ho,hd⟩
 ·rcases qt ow h with⟨_,_,g,_⟩|g
  ·exact⟨none,g⟩
  ·obtain⟨v,o,ho,hd⟩:=I.cell x c g;exact⟨v,o,keep c o ho,hd⟩
 ·show upd H₂ s₂.heap.objs.size (.lst []) C=none;rw[qE (Nat.ne_of_gt hC)];exact I.hok.fresh (wj hC)
 ·rcases qt ow h with⟨_,_,_,g⟩|g
  ·rw[qE (Nat.ne_of_gt (wk hC g))];exact I.hok.fresh (wj (wk hC g))
  ·rw[qE (wJ (lt x c g))];exact I.freeC x c g
 ·show (inner src σ).length=N.length;unfold inner;rw[wR,S.len]
theorem JR(I:Inv X pins σ H₂ s₂)(f2:∀b∈fp,Qy X pins H₂ b){C:Addr}{pins':List (Addr×Obj)}{σ':St}{H':Hp}{s':Shared}{h':Heap}(hC:s₂.heap.objs.size<=C)(J:Inv (cxComp X scope C fp s₂ H₂ N) pins' σ' H' s')
  (kp:∀b o,b≠C->s'.heap.get? b=some o->h'.get? b=some o):Inv X pins σ H' { s' with heap:=h' }:=by
 have neC:∀b o,s₂.heap.get? b=some o->b≠C:=λb o e=>wJ (wB (Heap.lt_size e) hC);have B:=J.base;refine I.call' (s':={ s' with heap:=h' }) (ch:=fp) J.os ⟨λb o e n hb hx=>kp b o (neC b o e) (B.keep b o e n hb hx),λb o e n hb hx=>?_,B.free,λb o e hx=>?_,B.tups,B.frzs,B.tbls⟩ (λa o e=>?_) J.bare λb hb=>⟨(f2 b hb).2.2.2.1,(f2 b hb).2.1,(f2 b hb).2.2.2.2⟩
 ·obtain⟨sl,q⟩:=B.slot b o e n hb hx;exact⟨sl,kp b _ (neC b o e) q⟩
 ·obtain⟨o',q⟩:=B.there b o e hx;exact⟨o',kp b o' (neC b o e) q⟩
 ·have nC:H' C=none:=J.free;have ne:∀b u,H' b=some u->b≠C:=λb u q z=>by rw[z,nC]at q;cases q
  refine(J.hok a o e).stay (λc v hc q=>kp c v ?_ q) (λ_ q=>q) λ_ _ q=>q;rcases hc with z|z
  ·rw[z];exact ne a o e
  ·exact ne c _ z
end
def PTs(X:Cx)(ifs:List Expr)(t:TT):Prop:=
 ∀(pins:List (Addr×Obj)) (s:Shared) (σ:St) (H:Hp) (Q:Bool->Hp->Prop),Inv X pins σ H s->t σ H Q ->
  wpAny (model X.prog X.w) X.A (forIn ifs true λc r=>if r=true then do let ok <- isTrue c X.env (eval c X.env);pure (ForInStep.yield ok) else pure (ForInStep.yield r)) (TP X pins σ Q) X.xe s
theorem pts_nil{X:Cx}:PTs X [] (λ_ H Q=>Q true H):=λpins s σ H Q I h=>vV ⟨H,I,h⟩
theorem pts_one{X:Cx}{c:Expr}{t:TT}(hc:PT X c t):PTs X [c] t:=by
 intro pins s σ H Q I h;rw[List.forIn_cons];simp only[if_true];refine vU (vU (thn (hc pins s σ H Q I h) λb s1 q=>?_));exact vV (vV q)
noncomputable def tComp(wi:TI)(src:List (Option Nat))(g:TG)(tc:TT)(te:TE):TE:=λσ H Q=>wi σ H λJ H1=>∀D,H1 D=none ->
 ∃W:Nat->Nat->List V->St->Hp->Prop,(∃m,W 0 m [] (inner src σ) (upd H1 D (.lst [])))/\∀i m ys σ' H',W i m ys σ' H'->H' D=some (.lst ys) ->
  (J.stop i H'/\Q (.ref D) H')\/
  (J.go i H'/\∀x H2,J.yld i H' x H2->g x σ' H2 λσ3 H3=>tc σ3 H3 λb H4=>
   if b=true then te σ3 H4 λy H5=>H5 D=some (.lst ys)/\ys.length<sizeLine/\∃m',m'<m/\W (i+1) m' (ys++[y]) σ3 (upd H5 D (.lst (ys++[y])))
   else H4 D=some (.lst ys)/\∃m',m'<m/\W (i+1) m' ys σ3 H4)
section
variable{X:Cx}{pins:List (Addr×Obj)}{σ:St}{H₂:Hp}{s₂:Shared}{scope:Scope}{N:List Str}{src:List (Option Nat)}
theorem B0{M:Model}{A:Around}{E:Value->Shared->Prop}{s:Shared}{scope:Scope}{globals:Addr}{cl:List (Str×Addr)}{qual:Str}{env:Env}{Q:Env->Shared->Prop}
  (h:Q (newEnv scope s.heap.objs.size globals (cellsFrom (s.heap.objs.size+1) scope.names cl) qual none .none (some env) builtinsNs) { s with heap:=pushCells (s.heap.push { cls:=.type "dict",data:=.dict #[] }) scope.names }):
  wpAny M A (newFunctionEnv scope globals cl [] qual none .none (some env)) Q E s:=by
 simp only[newFunctionEnv,Option.isSome_some,if_true];refine vU (wpAny_alloc ?_);refine vU (wpAny_layCells _ (λname kind cells=>by cases hkc:kind==NameKind.cell<;>simp[hkc]) _ _ _ _ ?_);rw[show ({ s with heap:=s.heap.push { cls:=.type "dict",data:=.dict #[] } }:Shared).heap.objs.size=s.heap.objs.size+1 from Heap.size_push ..];refine vU ?_;rw[List.forIn_nil];exact vV (vV h)
theorem G9{elt tg iter:Expr}{ifs:List Expr}{pos:Pos}{g:TG}{tc:TT}{te:TE}{it:Addr}{fp:List Addr}{tn:Nat->Heap->Prop}{J:It}{Q:VK}{E:Value->Shared->Prop}{RR:Value->Addr->Result->Shared->Prop}
  (hc:X.calm=true) (S:CompScope X scope N src) (I2:Inv X pins σ H₂ s₂) (T:JU X.prog X.w X.K tg J fp it tn) (st2:tn 0 s₂.heap) (f2:∀b∈fp,Qy X pins H₂ b)
  (hg:∀C fp s H,PG (cxComp X scope C fp s H N) tg g) (ht:∀C fp s H,PTs (cxComp X scope C fp s H N) ifs tc) (he:∀C fp s H,PE (cxComp X scope C fp s H N) elt te)
  (h:∀D,H₂ D=none->∃W:Nat->Nat->List V->St->Hp->Prop,(∃m,W 0 m [] (inner src σ) (upd H₂ D (.lst [])))/\∀i m ys σ' H',W i m ys σ' H'->H' D=some (.lst ys) ->
   (J.stop i H'/\Q (.ref D) H')\/
   (J.go i H'/\∀x H2,J.yld i H' x H2->g x σ' H2 λσ3 H3=>tc σ3 H3 λb H4=>
    if b=true then te σ3 H4 λy H5=>H5 D=some (.lst ys)/\ys.length<sizeLine/\∃m',m'<m/\W (i+1) m' (ys++[y]) σ3 (upd H5 D (.lst (ys++[y])))
    else H4 D=some (.lst ys)/\∃m',m'<m/\W (i+1) m' ys σ3 H4))
  (hRR:∀(D C:Addr) (σ':St) (H':Hp) (s':Shared),s₂.heap.objs.size<=C->Inv (cxComp X scope C fp s₂ H₂ N) [] σ' H' s'->Q (.ref D) H'->RR (.ref D) C (.ok .next) s'):
  wpAny (model X.prog X.w) X.A (newList []) (λacc s₃=>wpAny (model X.prog X.w) X.A (newFunctionEnv scope X.env.globals (M7 X.env.cells scope.names []) [] X.env.qual none .none (some X.env)) (λcenv s₄=>
   codeAny (model X.prog X.w) X.A (.compStart (.ListComp elt [⟨tg,iter,ifs,0⟩] scope pos) 0 (.ref it) acc { cenv with scope:=relabel scope X.env }) (RR acc cenv.locals) s₄) E s₃) E s₂:=by
 refine wpAny_newObj_type (B0 ?_);dsimp only;generalize hH2:s₂.heap.push { cls:=.type "list",dict:=none,data:=.seq ([]:List Value).toArray }=P2;have hC:P2.objs.size=s₂.heap.objs.size+1:=by rw[<-hH2,Heap.size_push]
 have ow:=cellsFrom_ok scope.names (P2.push { cls:=.type "dict",data:=.dict #[] }) (P2.objs.size+1) [] ⟨λ_ _ hm=>(nomatch hm),List.Pairwise.nil⟩ (by rw[Heap.size_push];exact Nat.le_refl _);rw[Heap.size_push]at ow;generalize hh1:pushCells (P2.push { cls:=.type "dict",data:=.dict #[] }) scope.names=h₁ at ow ⊢;have kp:∀b o,P2.get? b=some o->h₁.get? b=some o:=λb o e=>hh1 ▸ pushCells_keeps _ _ b o (Heap.get?_push_of_some _ e);have hns₁:h₁.Ns P2.objs.size (λ_=>none):=hh1 ▸ (Heap.Ns.new P2 (.type "dict")).keeps (pushCells_keeps _ _);have old:∀b o,s₂.heap.get? b=some o->h₁.get? b=some o:=λb o e=>kp b o (hH2 ▸ Heap.get?_push_of_some _ e);have hacc:h₁.get? s₂.heap.objs.size=some { cls:=.type "list",data:=.seq #[] }:=kp _ _ (hH2 ▸ Heap.get?_push_size _ rfl);have st1:tn 0 h₁:=T.keep _ _ _ st2 λb _ o e=>old b o e;have ob:=T.obj _ _ st2;have lt:s₂.heap.objs.size<P2.objs.size:=by rw[hC];exact Nat.lt_succ_self _
 have I3:=Zl (tk:=s₂.toks) S I2 f2 ob lt old hacc hns₁ ow;obtain⟨W,⟨m0,w0⟩,step⟩:=h s₂.heap.objs.size I2.fresh;have fpn:∀b∈fp,b≠s₂.heap.objs.size:=λb hb=>by
  obtain⟨o,e,_⟩:=ob b hb;exact wJ (Heap.lt_size e)
 have fok:∀{pins':List (Addr×Obj)}{H':Hp},(∀b∈fp,H' b=none)->(∀p∈pins',p.1∉fp)->∀b∈fp,Qy (cxComp X scope P2.objs.size fp s₂ H₂ N) pins' H' b:=λ{pins' H'} hn hp b hb=>by
  have okc:=I3.ok;exact⟨hn b hb,(okc.exf b hb).1,okc.exfs b hb,.inl hb,(okc.exf b hb).2,λp hp' z=>hp p (by simpa [cxComp] using hp') (z ▸ hb)⟩
 have loop:∀s₃:Shared,s₃={ s₂ with heap:=h₁,toks:=s₂.toks } ->
   codeAny (model X.prog X.w) X.A (.compLoop (.ListComp elt [⟨tg,iter,ifs,0⟩] scope pos) 0 (.ref it) (.ref s₂.heap.objs.size) (compEnvC scope (zq X scope P2.objs.size) P2.objs.size X.env))
    (RR (.ref s₂.heap.objs.size) P2.objs.size) s₃:=by
  rintro s₃ rfl;refine codeAny_loop rfl (λn s'=>∃i ys σ' H',Inv (cxComp X scope P2.objs.size fp s₂ H₂ N) [] σ' H' s'/\tn i s'.heap/\(∀b∈fp,H' b=none)/\H' s₂.heap.objs.size=some (.lst ys)/\W i n ys σ' H') (λn s' hI=>?_) m0
   ⟨0,[],inner src σ,_,I3,st1,λb hb=>by rw[qE (fpn b hb)];exact(f2 b hb).1,qF,w0⟩
  obtain⟨i,ys,σ3,H3,J3,st3,fr3,hD3,w3⟩:=hI;show wpAny _ X.A ((compTurn (.ListComp elt [⟨tg,iter,ifs,0⟩] scope pos) 0 (.ref it) (.ref s₂.heap.objs.size) _).onRaise (λx=>do noteFrame x _;theTreesLotGoes x)) _ _ s';refine wpAny_noted ?_;rw[compTurn_list];have never:∀{α:Type}{t:Sem α}{Q1:α->Shared->Prop}{E1:Value->Shared->Prop}{s1:Shared},wpAny (model X.prog X.w) X.A t Q1 (λ_ _=>False) s1->wpAny (model X.prog X.w) X.A t Q1 E1 s1:=λh=>wpAny_mono h (λ_ _ q=>q) λ_ _ f=>f.elim;refine vU (wpAny_standAt (vU ?_));rcases step i n ys σ3 H3 w3 hD3 with⟨stop,qn⟩|⟨go,qCW⟩
  ·refine never (thn (T.done (cxComp X scope P2.objs.size fp s₂ H₂ N) rfl rfl rfl hc i [] s' σ3 H3 _ J3 (fok fr3 (by simp)) st3 stop) λr s4 ⟨hr,I4⟩=>?_);subst hr;exact vV (hRR _ _ σ3 H3 s4 (wj lt) I4 qn)
  ·refine never (thn (T.item (cxComp X scope P2.objs.size fp s₂ H₂ N) rfl rfl rfl hc i [] s' σ3 H3 _ J3 (fok fr3 (by simp)) st3 go) λr s4 ⟨u,hr,h4⟩=>?_);subst hr;refine vU (never (thn h4 λ_ s5 ⟨x,H5,I5,r5,y5,st5,fr5⟩=>?_));have I5':=I5.pinned (fok fr5 (by simp)) (T.obj _ _ st5);have kept:∀{σ7:St}{H7:Hp}{s7:Shared},Inv (cxComp X scope P2.objs.size fp s₂ H₂ N) ([]++JS fp s5.heap) σ7 H7 s7->Inv (cxComp X scope P2.objs.size fp s₂ H₂ N) [] σ7 H7 s7/\tn (i+1) s7.heap/\∀b∈fp,H7 b=none:=λ{σ7 H7 s7} I7=>by
    refine⟨I7.unpinned,T.keep _ _ _ st5 λb hb o e=>(I7.pin (b,o) (wG _ (wG _ (zy hb e)))).1,λb hb=>?_⟩;obtain⟨o,e,d⟩:=T.obj _ _ st5 b hb;exact(I7.pin (b,o) (wG _ (wG _ (zy hb e)))).2.1
   refine vU (never (thn (hg _ _ _ _ _ s5 σ3 H5 x u _ I5' r5 (qCW x H5 y5)) λ_ s6 ⟨σ6,H6,I6,q6⟩=>?_));refine vU (never (thn (ht _ _ _ _ _ s6 σ6 H6 _ I6 q6) λb s7 ⟨H7,I7,q7⟩=>?_));cases b with
   |false=>
    rw[if_neg (by decide)]at q7;obtain⟨hD7,m',hm,w7⟩:=q7;obtain⟨I7',st7,fr7⟩:=kept I7;exact vV ⟨rfl,m',hm,i+1,ys,σ6,H7,I7',st7,fr7,hD7,w7⟩
   |true=>
    rw[if_pos rfl]at q7;refine vU (vU (never (thn (he _ _ _ _ _ s7 σ6 H7 _ I7 q7) λyv s8 ⟨y,H8,I8,r8,hD8,hz,m',hm,w8⟩=>?_)));refine vU (never (thn (mt_append (X:=cxComp X scope P2.objs.size fp s₂ H₂ N) _ s8 σ6 H8 (.ref s₂.heap.objs.size) [y] _ [yv] (λv H'=>v=.non/\H'=upd H8 s₂.heap.objs.size (.lst (ys++[y]))) I8 rfl (.cons r8 .nil) ⟨_,ys,y,rfl,rfl,hD8,hz,rfl,rfl⟩) λ_ s9 ⟨v9,H9,I9,_,_,e9⟩=>?_));subst e9;obtain⟨I9',st9,fr9⟩:=kept I9;exact vV (vV ⟨rfl,m',hm,i+1,_,σ6,_,I9',st9,fr9,qF,w8⟩)
 exact codeAny_compStart_list (loop _ rfl) (T.self _ 0 _ _ _ st1 (loop _ rfl))
end
section
variable{X:Cx}{scope:Scope}{N:List Str}{src:List (Option Nat)}{elt tg iter:Expr}{ifs:List Expr}{pos:Pos}{wi:TI}{g:TG}{tc:TT}{te:TE}
theorem pe_comp(hc:X.calm=true)(hi:PI X tg iter wi)(S:CompScope X scope N src)
  (hg:∀C fp s H,PG (cxComp X scope C fp s H N) tg g) (ht:∀C fp s H,PTs (cxComp X scope C fp s H N) ifs tc) (he:∀C fp s H,PE (cxComp X scope C fp s H N) elt te)
  (hs:∀x,foldedSetIterable iter X.env x=pure x:=by intro _;rfl):PE X (.ListComp elt [⟨tg,iter,ifs,0⟩] scope pos) (tComp wi src g tc te):=by
 intro pins s σ H Q I h;rw[eval_ListComp];refine wpAny_comprehension_free (use:=none) rfl hs (zj (S.cells I.ok)) S.kind S.names (thn (hi pins s σ H _ I h) λv s1 h1=>thn h1 λitv s2 h2=>?_);obtain⟨it,fp,tn,J,H2,rfl,I2,T,st2,f2,hW⟩:=h2;refine G9 (Q:=Q) (RR:=λacc C=>compPost (model X.prog X.w) X.A X.xe none (EP X pins σ Q) acc C) hc S I2 T st2 f2 hg ht he hW ?_;intro D C σ' H' s' hC J q;obtain⟨m,hn,_⟩:=id J.loc;exact⟨m,hn,λh' hs'=>⟨.ref D,H',JR I2 f2 hC J (λb o hb e=>hs'.extBut b o hb e),rfl,q⟩⟩
theorem ps_setcomp{i:Nat}{x:Str}{pos' spos:Pos}(hc:X.calm=true)(hi:PI X tg iter wi)(S:CompScope X scope N src)
  (hg:∀C fp s H,PG (cxComp X scope C fp s H N) tg g) (ht:∀C fp s H,PTs (cxComp X scope C fp s H N) ifs tc) (he:∀C fp s H,PE (cxComp X scope C fp s H N) elt te)
  (hsw:swapsWith (.ListComp elt [⟨tg,iter,ifs,0⟩] scope pos) (some (.Name x pos')) spos.line X.env=pure true)
  (hN:X.N.Nodup) (hx:X.N[i]?=some x) (hl:X.env.scope.names.lookup x=some .local)
  (hs:∀x,foldedSetIterable iter X.env x=pure x:=by intro _;rfl):PS X (.Assign [.Name x pos'] (.ListComp elt [⟨tg,iter,ifs,0⟩] scope pos) spos) (tAsg (tComp wi src g tc te) (qBn i)):=by
 intro pins s σ H D I h;rw[exec_Assign_Name_used _ _ _ _ hsw];refine vU (wpAny_standAt (vU ?_));show wpAny _ X.A (do let _ <- comprehension (.ListComp elt [⟨tg,iter,ifs,0⟩] scope pos) scope X.env _ (newList []) false (eval iter X.env) (some (assign (.Name x pos') X.env))) _ _ s;refine vU (wpAny_mono (wpAny_comprehension_free (use:=some (assign (.Name x pos') X.env)) (Q:=λ_ s'=>SP X pins D .next s') rfl hs (zj (S.cells I.ok)) S.kind S.names
  (thn (hi pins s σ H _ I h) λv s1 h1=>thn h1 λitv s2 h2=>?_)) (λ_ s' hq=>vV (vV hq)) λ_ _ e=>e)
 obtain⟨it,fp,tn,J,H2,rfl,I2,T,st2,f2,hW⟩:=h2;refine G9 (Q:=λv H'=>D.nx (σ.set i (some v)) H') (RR:=λacc C=>compPost (model X.prog X.w) X.A X.xe (some (assign (.Name x pos') X.env)) (λ_ s'=>SP X pins D .next s') acc C) hc S I2 T st2 f2 hg ht he hW ?_;intro L C σ' H' s' hC J q;obtain⟨m,hn,_⟩:=id J.loc;have I3:Inv X pins σ H' s':=JR (h':=s'.heap) I2 f2 hC J (λb o hb e=>e);show wpAny _ X.A (assign (.Name x pos') X.env (.ref L)) _ _ _;have nL:X.env.locals≠C:=wJ (wB I2.lt hC);refine wpAny_assign_Name (Jm I3 hN hx (.inl hl) (show RelV (.ref L) (.ref L) from rfl) (λs4 I4 hsb=>?_) (.inr hl));obtain⟨a,sb,ha⟩:=hsb;have ha':a≠C:=by
  rcases ha with z|z
  ·rw[z];exact nL
  ·obtain⟨v,hv⟩:=I2.cell x a z;exact wJ (wB hv.lt hC)
 refine⟨m,hn.sameBut sb (Ne.symm ha'),λh5 sb5=>?_⟩;have I5:Inv X pins (σ.set i (some (V.ref L))) H' { s4 with heap:=h5,toks:=s4.toks }:=I4.turned (it:=C) (λb o hb e=>sb5.extBut b o hb e) J.free (Ne.symm nL) (.inr (Nat.le_trans I2.sz hC)) (λy c e z=>by
   obtain⟨v,hv⟩:=I2.cell y c e;exact absurd (wB hv.lt (by rw[z];exact hC)) (Nat.lt_irrefl _)) λp hp z=>absurd (wB (Heap.lt_size (I2.pin p hp).1) (by rw[z];exact hC)) (Nat.lt_irrefl _)
 exact⟨_,H',I5,q⟩
end
end L2
namespace PI
open L2 (V Key)
open PySem (Str)
inductive BOp|add|sub|mul|fdiv|mod|pow|band
 deriving DecidableEq
inductive COp|lt|le|gt|ge|eq|ne|inn|notin|is|isnot
 deriving DecidableEq
inductive BF|len|sum|all|any|max|min|list|int|repr|bits
 deriving DecidableEq
inductive Mt|pop|popAt|rev|clr|ins
 deriving DecidableEq
inductive Tg|name(i:Nat)|tup(is:List Nat)
 deriving DecidableEq
mutual
inductive E
 |var (i:Nat)|cst (v:V)|glob (g:Nat)
 |bin (op:BOp) (a b:E)|neg (a:E)
 |cmp (op:COp) (a b:E)|cmp2 (o1 o2:COp) (a b c:E)
 |and (a b:E)|or (a b:E)|not (a:E)|ite (c a b:E)
 |call (f:Nat) (as:Es)|blt (f:BF) (as:Es)|isi (a:E) (ts:List String)
 |idx (a b:E)|sl (a:E) (lo hi:Es)   | lst (as:Es)|tup (as:Es)
 |comp (it:Itr) (src:List (Option Nat)) (g:Tg) (c:Es) (e:E)
 |app (a b:E)|lrng (a:E)|dnew|meth (m:Mt) (a:E) (as:Es)
inductive Es|nil|cons(a:E)(as:Es)
inductive Itr|list(a:E)|rng1(a:E)|rng2(a b:E)|zip(a b:E)
end
mutual
inductive S
 |asg (g:Tg) (e:E)  | put (o i v:E)
 |expr (e:E)|ret (e:E)  | ifs (c:E) (t u:Ss)
 |for_ (g:Tg) (it:Itr) (b:Ss)     | stop
       |inl (f ns:Nat) (b:Ss) (as:Es)|rett (as:Es)
inductive Ss|nil|cons(s:S)(r:Ss)
end
noncomputable def Es.snoc:Es->E->Es
 | .nil,e=>.cons e .nil
 | .cons a as,e=>.cons a (Es.snoc as e)
inductive Ob|dct(kvs:List (Int×V))|exn(c:Str)
 deriving DecidableEq
inductive O|lst(fz:Bool)(xs:List V)|tup(xs:List V)|ob(o:Ob)
 deriving DecidableEq
noncomputable abbrev AH:=List O
noncomputable abbrev St:=List (Option V)
inductive Res(α:Type)|ok(a:α)|exc(c:Nat)(h:AH)|stuck
noncomputable def Res.bind{α β:Type}:Res α->(α->Res β)->Res β
 | .ok a,f=>f a
 | .exc c h,_=>.exc c h
 | .stuck,_=>.stuck
noncomputable def Res.nx{α:Type}:Res α->Res α
 | .ok a=>.ok a
 | .exc _ _=>.stuck
 | .stuck=>.stuck
@[simp] theorem Res.bind_ok{α β:Type}(a:α)(f:α->Res β):(Res.ok a).bind f=f a:=rfl
noncomputable abbrev RV:=Res (V×AH)
noncomputable def items(h:AH)(a:Nat):Option (List V):=match h[a]? with
 |some (.lst _ xs)=>some xs
 |some (.tup xs)=>some xs
 |_=>none
noncomputable def qQ(h:AH)(a:Nat):Option (List V):=match h[a]? with
 |some (.lst _ xs)=>some xs
 |_=>none
noncomputable def qU(h:AH)(a:Nat):Option (List V):=match h[a]? with
 |some (.tup xs)=>some xs
 |_=>none
noncomputable def Jv(h:AH)(a:Nat):Option (List (Int×V)):=match h[a]? with
 |some (.ob (.dct kvs))=>some kvs
 |_=>none
noncomputable def qA1(kvs:List (Int×V))(k:Int):Bool:=kvs.any λp=>decide (p.1=k)
noncomputable def qDE(kvs:List (Int×V))(k:Int)(v:V):List (Int×V):=if qA1 kvs k=true then kvs.map (λp=>if p.1=k then (p.1,v) else p) else kvs++[(k,v)]
noncomputable def qBO(h:AH)(a:Nat):Option Str:=match h[a]? with
 |some (.ob (.exn c))=>some c
 |_=>none
noncomputable def qe(h:AH)(a:Nat):Option (List V):=match h[a]? with
 |some (.lst false xs)=>some xs
 |_=>none
noncomputable def lim:Nat:=100000
noncomputable def newL(xs:List V)(h:AH):RV:=.ok (.ref h.length,h++[.lst false xs])
noncomputable def newT(xs:List V)(h:AH):RV:=.ok (.ref h.length,h++[.tup xs])
noncomputable def flat:V->Bool
 | .non=>true | .bl _=>true | .int _=>true | .str _=>true|_=>false
noncomputable def eqF:V->V->Option Bool
 | .int i,.int j=>some (i==j)
 | .bl i,.bl j=>some (i==j)
 | .str i,.str j=>some (i==j)
 | .non,.non=>some true
 | .int i,.bl b=>some (i==(if b then 1 else 0))
 | .bl b,.int i=>some ((if b then 1 else 0)==i)
 | .non,.int _=>some false | .int _,.non=>some false
 | .non,.bl _=>some false | .bl _,.non=>some false
 | .non,.str _=>some false | .str _,.non=>some false
 | .int _,.str _=>some false | .str _,.int _=>some false
 | .bl _,.str _=>some false | .str _,.bl _=>some false
 |_,_=>none
noncomputable def ZA(f:V->V->Option Bool):List V->List V->Option (List Bool)
 | [],[]=>some []
 |x::xs,y::ys=>match f x y,ZA f xs ys with
  |some b,some bs=>some (b::bs)
  |_,_=>none
 |_,_=>none
noncomputable def eqD(h:AH):Nat->V->V->Option Bool
 | 0,x,y=>eqF x y
 |n+1,.ref a,.ref b=>match h[a]?,h[b]? with
  |some (.lst _ xs),some (.lst _ ys)=>if a=b then some true else if xs.length=ys.length then (ZA (eqD h n) xs ys).map λbs=>bs.all id else some false
  |some (.tup xs),some (.tup ys)=>if a=b then some true else if xs.length=ys.length then (ZA (eqD h n) xs ys).map λbs=>bs.all id else (ZA (eqD h n) (xs.take ys.length) (ys.take xs.length)).map λ_=>false
  |some (.lst _ _),some (.tup _)=>some false
  |some (.tup _),some (.lst _ _)=>some false
  |_,_=>none
 |_+1,.ref a,y=>if (items h a).isSome&&flat y then some false else none
 |_+1,x,.ref b=>if flat x&&(items h b).isSome then some false else none
 |_+1,x,y=>eqF x y
noncomputable abbrev ixN(n:Nat)(i:Int):Option Nat:=L2.ixN n i
noncomputable abbrev cut(xs:List V)(lo hi:Option Int):List V:=L2.cutV xs lo hi
noncomputable def two64:Int:=18446744073709551616
noncomputable def QH(i:Int):Bool:=decide (-two64<i/\i<two64)
noncomputable def mid(i:Int):Bool:=decide (i.natAbs.log2<9000)
noncomputable def N0(x y:V)(f:Int->Int->RV):RV:=match x with
 | .int i=>(match y with | .int j=>f i j|_=>.stuck)
 |_=>.stuck
theorem zI{x y:V}{f:Int->Int->RV}{r:V×AH}(e:N0 x y f=.ok r):∃i j,x=.int i/\y=.int j/\f i j=.ok r:=by
 unfold N0 at e;split at e
 ·split at e
  ·exact⟨_,_,rfl,rfl,e⟩
  ·cases e
 ·cases e
noncomputable def refB(x:V)(f:Nat->RV):RV:=match x with
 | .ref a=>f a
 |_=>.stuck
theorem jA{x:V}{f:Nat->RV}{r:V×AH}(e:refB x f=.ok r):∃a,x=.ref a/\f a=.ok r:=by
 unfold refB at e;split at e
 ·exact⟨_,rfl,e⟩
 ·cases e
noncomputable def qCQ:BOp->V->V->AH->RV
 | .add,x,y,h=>(match x with
  | .ref a=>refB y λb=>(match qe h a,qe h b with
   |some xs,some ys=>if xs.length+ys.length<=lim then newL (xs++ys) h else .stuck
   |_,_=>(match qU h a,qU h b with
    |some xs,some ys=>if xs≠[]/\xs.length+ys.length<=lim then (if ys=[] then .ok (.ref a,h) else newT (xs++ys) h) else .stuck
    |_,_=>.stuck))
  |x=>N0 x y λi j=>.ok (.int (i+j),h))
 | .sub,x,y,h=>N0 x y λi j=>.ok (.int (i-j),h)
 | .mul,x,y,h=>(match x with
  | .ref a=>(match y with
   | .int k=>(match qe h a with
    |some xs=>if 0<=k/\xs.length*k.toNat<=lim/\k<1000000 then newL (List.replicate k.toNat xs).flatten h else .stuck
    |none=>.stuck)
   |_=>.stuck)
  |x=>N0 x y λi j=>if QH i||QH j||(mid i&&mid j) then .ok (.int (i*j),h) else .stuck)
 | .fdiv,x,y,h=>N0 x y λi j=>if 0<j/\(j<1073741824\/mid j=true) then .ok (.int (i / j),h) else if j<0/\mid j=true then .ok (.int (i.fdiv j),h) else .stuck
 | .mod,x,y,h=>N0 x y λi j=>if 0<j then .ok (.int (i % j),h) else if j<0 then .ok (.int (i.fmod j),h) else .stuck
 | .pow,x,y,h=>N0 x y λi j=>if 0<=j/\j<=1000/\i.natAbs<18446744073709551616 then .ok (.int (i ^ j.toNat),h) else .stuck
 | .band,x,y,h=>N0 x y λi j=>.ok (.int (PySem.Builtin.bitAnd i j),h)
noncomputable def qAy(x y:V)(f:Int->Int->Bool):Option Bool:=match x with
 | .int i=>(match y with | .int j=>some (f i j)|_=>none)
 |_=>none
theorem QQ{x y:V}{f:Int->Int->Bool}{r:Bool}(e:qAy x y f=some r):∃i j,x=.int i/\y=.int j/\f i j=r:=by
 unfold qAy at e;split at e
 ·split at e
  ·exact⟨_,_,rfl,rfl,Option.some.inj e⟩
  ·cases e
 ·cases e
noncomputable def j2(y:V)(f:Nat->Option Bool):Option Bool:=match y with
 | .ref a=>f a
 |_=>none
theorem G3{y:V}{f:Nat->Option Bool}{r:Bool}(e:j2 y f=some r):∃a,y=.ref a/\f a=some r:=by
 unfold j2 at e;split at e
 ·exact⟨_,rfl,e⟩
 ·cases e
noncomputable def isC(x y:V)(f:Bool->Bool):Option Bool:=match y with
 | .non=>some (f (decide (x=.non)))
 | .bl d=>(match x with | .bl c=>some (f (c==d))|_=>none)
 |_=>none
theorem O2{x y:V}{f:Bool->Bool}{r:Bool}(e:isC x y f=some r):(y=.non/\f (decide (x=.non))=r)\/∃c d,x=.bl c/\y=.bl d/\f (c==d)=r:=by
 unfold isC at e;split at e
 ·exact .inl ⟨rfl,Option.some.inj e⟩
 ·split at e
  ·exact .inr ⟨_,_,rfl,rfl,Option.some.inj e⟩
  ·cases e
 ·cases e
noncomputable def W9:COp->V->V->AH->Option Bool
 | .lt,x,y,_=>qAy x y λi j=>decide (i<j)
 | .le,x,y,_=>qAy x y λi j=>decide (i<=j)
 | .gt,x,y,_=>qAy x y λi j=>decide (j<i)
 | .ge,x,y,_=>qAy x y λi j=>decide (j<=i)
 | .eq,x,y,h=>eqD h 4 x y
 | .ne,x,y,h=>(eqD h 4 x y).map (!·)
 | .inn,x,y,h=>j2 y λa=>(match items h a with
  |some xs=>if flat x&&xs.all flat then some (xs.any λy=>L2.eqV y x) else none
  |none=>match Jv h a with
   |some kvs=>(match x with | .int i=>some (qA1 kvs i)|_=>none)
   |none=>none)
 | .notin,x,y,h=>j2 y λa=>(match items h a with
  |some xs=>if flat x&&xs.all flat then some (!(xs.any λy=>L2.eqV y x)) else none
  |none=>match Jv h a with
   |some kvs=>(match x with | .int i=>some (!qA1 kvs i)|_=>none)
   |none=>none)
 | .is,x,y,_=>isC x y id
 | .isnot,x,y,_=>isC x y (!·)
noncomputable def qAx(op:COp)(x y:V)(h:AH):RV:=match W9 op x y h with
 |some b=>.ok (.bl b,h)
 |none=>.stuck
noncomputable def jH:List V->Option (List Int)
 | []=>some []
 | .int i::r=>(jH r).map (i::·)
 |_::_=>none
noncomputable def jM:List V->Option (List Bool)
 | []=>some []
 | .bl b::r=>(jM r).map (b::·)
 |_::_=>none
noncomputable def zp:List V->Option (List Int)
 | []=>some []
 | .int i::r=>(zp r).map (i::·)
 | .bl b::r=>(zp r).map ((if b=true then 1 else 0)::·)
 |_::_=>none
noncomputable def jF(lo:Int)(n:Nat):List V:=(List.range n).map λ(i:Nat)=>V.int (lo+(i:Int))
noncomputable def ins(x:Int):List Int->List Int
 | []=>[x]
 |y::r=>if x<=y then x::y::r else y::ins x r
noncomputable def one(as:List V)(f:V->RV):RV:=match as with
 | [a]=>f a
 |_=>.stuck
theorem zl{as:List V}{f:V->RV}{r:V×AH}(e:one as f=.ok r):∃a,as=[a]/\f a=.ok r:=by
 unfold one at e;split at e
 ·exact⟨_,rfl,e⟩
 ·cases e
noncomputable def two(as:List V)(f:V->V->RV):RV:=match as with
 | [a,b]=>f a b
 |_=>.stuck
theorem two_inv{as:List V}{f:V->V->RV}{r:V×AH}(e:two as f=.ok r):∃a b,as=[a,b]/\f a b=.ok r:=by
 unfold two at e;split at e
 ·exact⟨_,_,rfl,e⟩
 ·cases e
noncomputable def j0:V->Option PySem.PyData
 | .non=>some .none
 | .bl b=>some (.bool b)
 | .int i=>some (.int i)
 | .str x=>some (.str x)
 |_=>none
noncomputable def J8(f:V->Option PySem.PyData):List V->Option (List PySem.PyData)
 | []=>some []
 |x::r=>(f x).bind λd=>(J8 f r).map λds=>d::ds
noncomputable def dat(h:AH):Nat->V->Option PySem.PyData
 | 0,x=>j0 x
 |n+1,x=>match x with
  | .ref a=>(match h[a]? with
   |some (.lst _ xs)=>(J8 (dat h n) xs).map .list
   |some (.tup xs)=>(J8 (dat h n) xs).map .tuple
   |some (.ob (.dct []))=>some (.dict [])
   |_=>none)
  |y=>j0 y
noncomputable def Qz(d:PySem.PyData):Option V:=if d.showable=true/\d.shown.length<=PySem.sizeLine then some (.str d.shown) else none
noncomputable def qDc(h:AH)(x:V):Option PySem.PyData:=dat h 5 x
noncomputable def qCg(h:AH)(x:V):RV:=match (qDc h x).bind Qz with
 |some v=>.ok (v,h)
 |none=>.stuck
noncomputable def qCn:BF->List V->AH->RV
 | .len,as,h=>one as λx=>refB x λa=>(match items h a with|some xs=>.ok (.int xs.length,h)|none=>.stuck)
 | .sum,as,h=>one as λx=>refB x λa=>(match qQ h a with
  |some xs=>match zp xs with|some is=>.ok (.int is.sum,h)|none=>.stuck
  |none=>.stuck)
 | .all,as,h=>one as λx=>refB x λa=>(match qQ h a with
  |some xs=>match jM xs with|some bs=>.ok (.bl (bs.all id),h)|none=>.stuck
  |none=>.stuck)
 | .any,as,h=>one as λx=>refB x λa=>(match qQ h a with
  |some xs=>match jM xs with|some bs=>.ok (.bl (bs.any id),h)|none=>.stuck
  |none=>.stuck)
 | .max,as,h=>two as λx y=>N0 x y λi j=>.ok (.int (if j>i then j else i),h)
 | .min,as,h=>two as λx y=>N0 x y λi j=>.ok (.int (if j<i then j else i),h)
 | .list,as,h=>one as λx=>refB x λa=>(match items h a with|some xs=>newL xs h|none=>.stuck)
 | .int,as,h=>one as λx=>(match x with | .int i=>.ok (.int i,h) | .bl b=>.ok (.int (if b then 1 else 0),h)|_=>.stuck)
 | .bits,as,h=>one as λx=>(match x with | .int i=>.ok (.int ((PySem.Builtin.Int.intBits i:Nat):Int),h)|_=>.stuck)
 | .repr,as,h=>one as λx=>qCg h x
noncomputable def QJ:Mt->Nat->List V->AH->RV
 | .pop,p,[],h=>match qe h p with
  |some xs=>match xs[xs.length-1]? with|some y=>.ok (y,h.set p (.lst false xs.dropLast))|none=>.stuck
  |none=>.stuck
 | .popAt,p,[.int i],h=>match qe h p with
  |some xs=>if xs.length<=lim then (match ixN xs.length i with|some k=>(match xs[k]? with|some y=>.ok (y,h.set p (.lst false (xs.eraseIdx k)))|none=>.stuck)|none=>.stuck) else .stuck
  |none=>.stuck
 | .rev,p,[],h=>match qe h p with|some xs=>.ok (.non,h.set p (.lst false xs.reverse))|none=>.stuck
 | .clr,p,[],h=>match qe h p with|some _=>.ok (.non,h.set p (.lst false []))|none=>.stuck
 | .ins,p,[.int i,y],h=>match qe h p with
  |some xs=>if 0<=i/\i<=xs.length/\xs.length<lim then .ok (.non,h.set p (.lst false (xs.take i.toNat++y::xs.drop i.toNat))) else .stuck
  |none=>.stuck
 |_,_,_,_=>.stuck
noncomputable def zk(h:AH):V->Option String
 | .non=>some "NoneType"
 | .bl _=>some "bool"
 | .int _=>some "int"
 | .str _=>some "str"
 | .ref a=>match h[a]? with|some (.lst _ _)=>some "list" | some (.tup _)=>some "tuple" | some (.ob (.dct _))=>some "dict" | _=>none
 |_=>none
noncomputable def zY(t c:String):Bool:=t==c||(t=="bool"&&c=="int")
inductive Src|list(a:Nat)|tupl(a:Nat)|rng(lo:Int)(n:Nat)|zip(a b:Nat)
noncomputable def U0(h:AH):Src->Option Nat
 | .list a=>(qQ h a).map List.length
 | .tupl a=>(qU h a).map List.length
 | .rng _ n=>some n
 | .zip a b=>match qQ h a,qQ h b with|some xs,some ys=>some (min xs.length ys.length)|_,_=>none
noncomputable def qq(h:AH)(i:Nat):Src->Option (V×AH)
 | .list a=>match qQ h a with|some xs=>xs[i]?.map λx=>(x,h)|none=>none
 | .tupl a=>match qU h a with|some xs=>xs[i]?.map λx=>(x,h)|none=>none
 | .rng lo n=>if i<n then some (.int (lo+(i:Int)),h) else none
 | .zip a b=>match qQ h a,qQ h b with
  |some xs,some ys=>match xs[i]?,ys[i]? with|some x,some y=>some (.ref h.length,h++[.tup [x,y]])|_,_=>none
  |_,_=>none
noncomputable def jk(h:AH)(i:Nat):Src->Bool
 | .list a=>match qQ h a with|some xs=>decide (xs.length<=i)|none=>false
 | .tupl a=>match qU h a with|some xs=>decide (xs.length<=i)|none=>false
 | .rng _ n=>decide (n<=i)
 | .zip a b=>match qQ h a,qQ h b with|some xs,some ys=>decide (xs.length<=i\/ys.length<=i)|_,_=>false
noncomputable def ZL:List Nat->List V->St->Option St
 | [],[],σ=>some σ
 |i::is,x::xs,σ=>ZL is xs (σ.set i (some x))
 |_,_,_=>none
noncomputable def store:Tg->V->St->AH->Option St
 | .name i,v,σ,_=>some (σ.set i (some v))
 | .tup is,.ref a,σ,h=>match qU h a with|some xs=>ZL is xs σ | none=>none
 | .tup _,_,_,_=>none
noncomputable def QI(s:Src)(g:Tg)(c:St->AH->Res (Bool×AH))(e:St->AH->RV)(D:Nat):Nat->Nat->List V->St->AH->RV
 | 0,i,_,_,h=>if jk h i s then .ok (.ref D,h) else .stuck
 |n+1,i,ys,σ,h=>match qq h i s with
  |some (x,h1)=>match store g x σ h1 with
   |some σ1=>(c σ1 h1).bind λ(b,h2)=>
    if b then (e σ1 h2).bind λ(y,h3)=>if h3[D]?=some (.lst false ys)/\ys.length<lim then QI s g c e D n (i+1) (ys++[y]) σ1 (h3.set D (.lst false (ys++[y]))) else .stuck
    else if h2[D]?=some (.lst false ys) then QI s g c e D n (i+1) ys σ1 h2 else .stuck
   |none=>.stuck
  |none=>.stuck
noncomputable def asB(r:RV):Res (Bool×AH):=r.bind λ(v,h)=>match v with | .bl b=>.ok (b,h)|_=>.stuck
section
variable (F:Nat->List V->AH->RV)
mutual
noncomputable def ev:E->St->AH->RV
 | .var i=>λσ h=>match σ[i]? with|some (some v)=>.ok (v,h)|_=>.stuck
 | .cst v=>λ_ h=>.ok (v,h)
 | .glob g=>λ_ h=>.ok (.ref g,h)
 | .bin op a b=>λσ h=>(ev a σ h).bind λ(x,h1)=>(ev b σ h1).bind λ(y,h2)=>qCQ op x y h2
 | .neg a=>λσ h=>(ev a σ h).bind λ(x,h1)=>match x with | .int i=>.ok (.int (-i),h1)|_=>.stuck
 | .cmp op a b=>λσ h=>(ev a σ h).bind λ(x,h1)=>(ev b σ h1).bind λ(y,h2)=>qAx op x y h2
 | .cmp2 o1 o2 a b c=>λσ h=>(ev a σ h).bind λ(x,h1)=>(ev b σ h1).bind λ(y,h2)=>match W9 o1 x y h2 with
  |some true=>(ev c σ h2).bind λ(z,h3)=>qAx o2 y z h3
  |some false=>.ok (.bl false,h2)
  |none=>.stuck
 | .and a b=>λσ h=>(asB (ev a σ h)).bind λ(x,h1)=>if x then ev b σ h1 else .ok (.bl false,h1)
 | .or a b=>λσ h=>(asB (ev a σ h)).bind λ(x,h1)=>if x then .ok (.bl true,h1) else ev b σ h1
 | .not a=>λσ h=>(asB (ev a σ h)).bind λ(x,h1)=>.ok (.bl (!x),h1)
 | .ite c a b=>λσ h=>(asB (ev c σ h)).bind λ(x,h1)=>if x then ev a σ h1 else ev b σ h1
 | .call f as=>λσ h=>(evs as σ h).bind λ(xs,h1)=>(F f xs h1).nx
 | .blt f as=>λσ h=>(evs as σ h).bind λ(xs,h1)=>qCn f xs h1
 | .isi a ts=>λσ h=>(ev a σ h).bind λ(x,h1)=>match zk h1 x with|some t=>.ok (.bl (ts.any (zY t)),h1)|none=>.stuck
 | .idx a b=>λσ h=>(ev a σ h).bind λ(x,h1)=>(ev b σ h1).bind λ(y,h2)=>match x,y with
  | .ref p,.int i=>match items h2 p with
   |some xs=>match (ixN xs.length i).bind λj=>xs[j]? with|some v=>.ok (v,h2)|none=>.stuck
   |none=>.stuck
  |_,_=>.stuck
 | .sl a lo hi=>λσ h=>(ev a σ h).bind λ(x,h1)=>(evs lo σ h1).bind λ(l,h2)=>(evs hi σ h2).bind λ(u,h3)=>
  match x,jH l,jH u with
  | .ref p,some l,some u=>match qQ h3 p with
   |some xs=>newL (cut xs l.head? u.head?) h3
   |none=>match qU h3 p with
    |some xs=>if HT.sIx xs.length 0 l.head?=0/\HT.sIx xs.length xs.length u.head?=xs.length then .stuck else newT (cut xs l.head? u.head?) h3
    |none=>.stuck
  |_,_,_=>.stuck
 | .lst as=>λσ h=>(evs as σ h).bind λ(xs,h1)=>if xs.length<=lim then newL xs h1 else .stuck
 | .tup as=>λσ h=>(evs as σ h).bind λ(xs,h1)=>if xs.length<=lim then newT xs h1 else .stuck
 | .comp it src g c e=>λσ h=>(evi it σ h).bind λ(s,h1)=>match U0 (h1++[.lst false []]) s with
  |some n=>QI s g (evc c) (ev e) h1.length n 0 [] (L2.inner src σ) (h1++[.lst false []])
  |none=>.stuck
 | .app a b=>λσ h=>(ev a σ h).bind λ(x,h1)=>match x with
  | .ref p=>(match qQ h1 p with
   |some _=>(ev b σ h1).bind λ(y,h2)=>match qe h2 p with
    |some xs=>if xs.length<lim then .ok (.non,h2.set p (.lst false (xs++[y]))) else .stuck
    |none=>.stuck
   |none=>.stuck)
  |_=>.stuck
 | .lrng a=>λσ h=>(ev a σ h).bind λ(x,h1)=>match x with | .int j=>if -1000000<=j/\j<=100000 then newL (jF 0 j.toNat) h1 else .stuck|_=>.stuck
 | .dnew=>λ_ h=>.ok (.ref h.length,h++[.ob (.dct [])])
 | .meth m a as=>λσ h=>(ev a σ h).bind λ(x,h1)=>match x with
  | .ref p=>(match qQ h1 p with
   |some _=>(evs as σ h1).bind λ(ys,h2)=>QJ m p ys h2
   |none=>.stuck)
  |_=>.stuck
noncomputable def evs:Es->St->AH->Res (List V×AH)
 | .nil=>λ_ h=>.ok ([],h)
 | .cons a as=>λσ h=>(ev a σ h).bind λ(x,h1)=>(evs as σ h1).bind λ(xs,h2)=>.ok (x::xs,h2)
noncomputable def evc:Es->St->AH->Res (Bool×AH)
 | .nil=>λ_ h=>.ok (true,h)
 | .cons a _=>λσ h=>asB (ev a σ h)
noncomputable def evi:Itr->St->AH->Res (Src×AH)
 | .list a=>λσ h=>(ev a σ h).bind λ(x,h1)=>match x with | .ref p=>(match h1[p]? with|some (.lst _ _)=>.ok (.list p,h1)|some (.tup _)=>.ok (.tupl p,h1)|_=>.stuck)|_=>.stuck
 | .rng1 a=>λσ h=>(ev a σ h).bind λ(x,h1)=>match x with | .int j=>if -1000000<=j/\j<=1000000 then .ok (.rng 0 j.toNat,h1) else .stuck|_=>.stuck
 | .rng2 a b=>λσ h=>(ev a σ h).bind λ(x,h1)=>(ev b σ h1).bind λ(y,h2)=>match x,y with
  | .int i,.int j=>if (-1000000<=i/\i<=1000000)/\-1000000<=j/\j<=1000000 then .ok (.rng i (j-i).toNat,h2) else .stuck
  |_,_=>.stuck
 | .zip a b=>λσ h=>(ev a σ h).bind λ(x,h1)=>(ev b σ h1).bind λ(y,h2)=>match x,y with
  | .ref p,.ref q=>match qQ h2 p,qQ h2 q with|some _,some _=>.ok (.zip p q,h2)|_,_=>.stuck
  |_,_=>.stuck
end
inductive Out|nx(σ:St)|rt(v:V)|bk(σ:St)|ct(σ:St)
noncomputable abbrev RS:=Res (Out×AH)
noncomputable def G8(s:Src)(g:Tg)(b:St->AH->RS):Nat->Nat->St->AH->RS
 | 0,i,σ,h=>if jk h i s then .ok (.nx σ,h) else .stuck
 |n+1,i,σ,h=>match qq h i s with
  |some (x,h1)=>match store g x σ h1 with
   |some σ1=>(b σ1 h1).bind λ(o,h2)=>match o with
    | .nx σ2=>G8 s g b n (i+1) σ2 h2
    | .ct σ2=>G8 s g b n (i+1) σ2 h2
    | .bk σ2=>.ok (.nx σ2,h2)
    | .rt v=>.ok (.rt v,h2)
   |none=>.stuck
  |none=>.stuck
mutual
noncomputable def ex:S->St->AH->RS
 | .asg g e=>λσ h=>(ev F e σ h).bind λ(x,h1)=>match store g x σ h1 with|some σ1=>.ok (.nx σ1,h1)|none=>.stuck
 | .put o i v=>λσ h=>(ev F v σ h).bind λ(x,h1)=>(ev F o σ h1).bind λ(p,h2)=>(ev F i σ h2).bind λ(k,h3)=>match p,k with
  | .ref a,.int k=>match qe h3 a with
   |some xs=>match ixN xs.length k with|some j=>.ok (.nx σ,h3.set a (.lst false (xs.set j x)))|none=>.stuck
   |none=>match Jv h3 a with
    |some kvs=>if flat x=true/\kvs.length<lim then .ok (.nx σ,h3.set a (.ob (.dct (qDE kvs k x)))) else .stuck
    |none=>.stuck
  |_,_=>.stuck
 | .expr e=>λσ h=>(ev F e σ h).bind λ(_,h1)=>.ok (.nx σ,h1)
 | .ret e=>λσ h=>(ev F e σ h).bind λ(x,h1)=>.ok (.rt x,h1)
 | .rett as=>λσ h=>(ev F (.tup as) σ h).bind λ(x,h1)=>.ok (.rt x,h1)
 | .inl _ ns b as=>λσ h=>(evs F as σ h).bind λ(xs,h1)=>if xs.length<=ns then (exs b (xs.map some++List.replicate (ns-xs.length) none) h1).nx.bind λ(o,h2)=>(match o with | .nx _=>.ok (.rt .non,h2) | .rt v=>.ok (.rt v,h2)|_=>.stuck) else .stuck
 | .ifs c t u=>λσ h=>(asB (ev F c σ h)).bind λ(x,h1)=>if x then exs t σ h1 else exs u σ h1
 | .for_ g it b=>λσ h=>(evi F it σ h).bind λ(s,h1)=>match U0 h1 s with
  |some n=>G8 s g (exs b) n 0 σ h1
  |none=>.stuck
 | .stop=>λ_ _=>.stuck
noncomputable def exs:Ss->St->AH->RS
 | .nil=>λσ h=>.ok (.nx σ,h)
 | .cons s r=>λσ h=>(ex s σ h).bind λ(o,h1)=>match o with
  | .nx σ1=>exs r σ1 h1
  |o=>.ok (o,h1)
end
end
structure Fn where
 npar:Nat
 nslot:Nat
 body:Ss
noncomputable def Fk(tb:List Fn):Nat->Nat->List V->AH->RV
 | 0,_,_,_=>.stuck
 |k+1,f,vs,h=>match tb[f]? with
  |some d=>if vs.length=d.npar/\d.npar<=d.nslot then (exs (Fk tb k) d.body (vs.map some++List.replicate (d.nslot-d.npar) none) h).bind λ(o,h1)=>match o with
    | .nx _=>.ok (.non,h1)
    | .rt v=>.ok (v,h1)
    |_=>.stuck
   else .stuck
  |none=>.stuck
def Le{α:Type}(r r':Res α):Prop:=r=.stuck\/r=r'
theorem Le.refl{α:Type}(r:Res α):Le r r:=.inr rfl
theorem Le.stuck{α:Type}(r:Res α):Le .stuck r:=.inl rfl
theorem Le.bind{α β:Type}{r r':Res α}{f f':α->Res β}(h:Le r r')(k:∀x,Le (f x) (f' x)):Le (r.bind f) (r'.bind f'):=by
 rcases h with rfl|rfl
 ·exact .inl rfl
 ·cases r with
  |ok a=>exact k a
  |exc c h=>exact .inr rfl
  |stuck=>exact .inl rfl
theorem Le.nx{α:Type}{r r':Res α}(h:Le r r'):Le r.nx r'.nx:=by
 rcases h with rfl|rfl
 ·exact .inl rfl
 ·exact .inr rfl
theorem Le.asB{r r':RV}(h:Le r r'):Le (asB r) (asB r'):=Le.bind h λ_=>Le.refl _
theorem Le.refB{x:V}{f f':Nat->RV}(k:∀p,Le (f p) (f' p)):Le (refB x f) (refB x f'):=by
 unfold PI.refB;split
 ·exact k _
 ·exact Le.refl _
theorem jp{s:Src}{g:Tg}{c c':St->AH->Res (Bool×AH)}{e e':St->AH->RV}{D:Nat}(hc:∀σ h,Le (c σ h) (c' σ h))(he:∀σ h,Le (e σ h) (e' σ h)):∀(n i:Nat) (ys:List V) (σ:St) (h:AH),Le (QI s g c e D n i ys σ h) (QI s g c' e' D n i ys σ h)
 | 0,i,ys,σ,h=>Le.refl _
 |n+1,i,ys,σ,h=>by
  rw[QI,QI];split
  ·split
   ·refine Le.bind (hc _ _) λp=>?_;obtain⟨b,h2⟩:=p;dsimp only;split
    ·refine Le.bind (he _ _) λp=>?_;obtain⟨y,h3⟩:=p;dsimp only;split
     ·exact jp hc he _ _ _ _ _
     ·exact Le.refl _
    ·split
     ·exact jp hc he _ _ _ _ _
     ·exact Le.refl _
   ·exact Le.refl _
  ·exact Le.refl _
theorem Qd{s:Src}{g:Tg}{b b':St->AH->RS}(hb:∀σ h,Le (b σ h) (b' σ h)):∀(n i:Nat) (σ:St) (h:AH),Le (G8 s g b n i σ h) (G8 s g b' n i σ h)
 | 0,i,σ,h=>Le.refl _
 |n+1,i,σ,h=>by
  rw[G8,G8];split
  ·split
   ·refine Le.bind (hb _ _) λp=>?_;obtain⟨o,h2⟩:=p;cases o
    ·exact Qd hb _ _ _ _
    ·exact Le.refl _
    ·exact Le.refl _
    ·exact Qd hb _ _ _ _
   ·exact Le.refl _
  ·exact Le.refl _
section
variable{F F':Nat->List V->AH->RV}(hF:∀f vs h,Le (F f vs h) (F' f vs h))
include hF
mutual
theorem qD:∀(e:E) (σ:St) (h:AH),Le (ev F e σ h) (ev F' e σ h)
 | .comp it src g c e,σ,h=>by
  rw[ev,ev];refine Le.bind (D2 it σ h) λp=>?_;obtain⟨s,h1⟩:=p;dsimp only;split
  ·exact jp (λσ h=>X7 c σ h) (λσ h=>qD e σ h) _ _ _ _ _
  ·exact Le.refl _
 | .var i,σ,h=>Le.refl _
 | .cst v,σ,h=>Le.refl _
 | .glob g,σ,h=>Le.refl _
 | .dnew,σ,h=>Le.refl _
 | .bin op a b,σ,h=>Le.bind (qD a σ h) λ(x,h1)=>Le.bind (qD b σ h1) λ_=>Le.refl _
 | .cmp op a b,σ,h=>Le.bind (qD a σ h) λ(x,h1)=>Le.bind (qD b σ h1) λ_=>Le.refl _
 | .idx a b,σ,h=>Le.bind (qD a σ h) λ(x,h1)=>Le.bind (qD b σ h1) λ_=>Le.refl _
 | .neg a,σ,h=>Le.bind (qD a σ h) λ_=>Le.refl _
 | .lrng a,σ,h=>Le.bind (qD a σ h) λ_=>Le.refl _
 | .isi a ts,σ,h=>Le.bind (qD a σ h) λ_=>Le.refl _
 | .cmp2 o1 o2 a b c,σ,h=>Le.bind (qD a σ h) λ(x,h1)=>Le.bind (qD b σ h1) λ(y,h2)=>by
  dsimp only;split
  ·exact Le.bind (qD c σ h2) λ_=>Le.refl _
  ·exact Le.refl _
  ·exact Le.refl _
 | .and a b,σ,h=>Le.bind (Le.asB (qD a σ h)) λ(x,h1)=>by
  dsimp only;split
  ·exact qD b σ h1
  ·exact Le.refl _
 | .or a b,σ,h=>Le.bind (Le.asB (qD a σ h)) λ(x,h1)=>by
  dsimp only;split
  ·exact Le.refl _
  ·exact qD b σ h1
 | .not a,σ,h=>Le.bind (Le.asB (qD a σ h)) λ_=>Le.refl _
 | .ite c a b,σ,h=>Le.bind (Le.asB (qD c σ h)) λ(x,h1)=>by
  dsimp only;split
  ·exact qD a σ h1
  ·exact qD b σ h1
 | .call f as,σ,h=>Le.bind (qx as σ h) λ(xs,h1)=>Le.nx (hF _ _ _)
 | .blt f as,σ,h=>Le.bind (qx as σ h) λ_=>Le.refl _
 | .lst as,σ,h=>Le.bind (qx as σ h) λ_=>Le.refl _
 | .tup as,σ,h=>Le.bind (qx as σ h) λ_=>Le.refl _
 | .sl a lo hi,σ,h=>Le.bind (qD a σ h) λ(x,h1)=>Le.bind (qx lo σ h1) λ(l,h2)=>Le.bind (qx hi σ h2) λ_=>Le.refl _
 | .app a b,σ,h=>Le.bind (qD a σ h) λ(x,h1)=>by
  cases x with
  |ref p=>
   dsimp only;split
   ·exact Le.bind (qD b σ h1) λ_=>Le.refl _
   ·exact Le.refl _
  |_=>exact Le.refl _
 | .meth m a as,σ,h=>Le.bind (qD a σ h) λ(x,h1)=>by
  cases x with
  |ref p=>
   dsimp only;split
   ·exact Le.bind (qx as σ h1) λ_=>Le.refl _
   ·exact Le.refl _
  |_=>exact Le.refl _
theorem qx:∀(as:Es) (σ:St) (h:AH),Le (evs F as σ h) (evs F' as σ h)
 | .nil,σ,h=>Le.refl _
 | .cons a as,σ,h=>by
  rw[evs,evs];refine Le.bind (qD a σ h) λp=>?_;obtain⟨x,h1⟩:=p;exact Le.bind (qx as σ h1) λp=>Le.refl _
theorem X7:∀(as:Es) (σ:St) (h:AH),Le (evc F as σ h) (evc F' as σ h)
 | .nil,σ,h=>Le.refl _
 | .cons a as,σ,h=>Le.asB (qD a σ h)
theorem D2:∀(it:Itr) (σ:St) (h:AH),Le (evi F it σ h) (evi F' it σ h)
 | .list a,σ,h=>Le.bind (qD a σ h) λ_=>Le.refl _
 | .rng1 a,σ,h=>Le.bind (qD a σ h) λ_=>Le.refl _
 | .rng2 a b,σ,h=>Le.bind (qD a σ h) λ(x,h1)=>Le.bind (qD b σ h1) λ_=>Le.refl _
 | .zip a b,σ,h=>Le.bind (qD a σ h) λ(x,h1)=>Le.bind (qD b σ h1) λ_=>Le.refl _
end
mutual
theorem B1:∀(s:S) (σ:St) (h:AH),Le (ex F s σ h) (ex F' s σ h)
 | .asg g e,σ,h=>Le.bind (qD hF e σ h) λ_=>Le.refl _
 | .put o i v,σ,h=>Le.bind (qD hF v σ h) λ(x,h1)=>Le.bind (qD hF o σ h1) λ(p,h2)=>Le.bind (qD hF i σ h2) λ_=>Le.refl _
 | .expr e,σ,h=>Le.bind (qD hF e σ h) λ_=>Le.refl _
 | .ret e,σ,h=>Le.bind (qD hF e σ h) λ_=>Le.refl _
 | .rett as,σ,h=>Le.bind (qD hF _ σ h) λ_=>Le.refl _
 | .inl f ns b as,σ,h=>Le.bind (qx hF as σ h) λ(xs,h1)=>by
  dsimp only;split
  ·exact Le.bind (Le.nx (ze b _ h1)) λ_=>Le.refl _
  ·exact Le.refl _
 | .ifs c t u,σ,h=>Le.bind (Le.asB (qD hF c σ h)) λ(x,h1)=>by
  dsimp only;split
  ·exact ze t σ h1
  ·exact ze u σ h1
 | .for_ g it b,σ,h=>Le.bind (D2 hF it σ h) λ(s,h1)=>by
  dsimp only;split
  ·exact Qd (λσ h=>ze b σ h) _ _ _ _
  ·exact Le.refl _
 | .stop,σ,h=>Le.refl _
theorem ze:∀(s:Ss) (σ:St) (h:AH),Le (exs F s σ h) (exs F' s σ h)
 | .nil,σ,h=>Le.refl _
 | .cons s r,σ,h=>Le.bind (B1 s σ h) λ(o,h1)=>by
  cases o
  ·exact ze r _ _
  ·exact Le.refl _
  ·exact Le.refl _
  ·exact Le.refl _
end
end
theorem N6(tb:List Fn):∀(k f:Nat) (vs:List V) (h:AH),Le (Fk tb k f vs h) (Fk tb (k+1) f vs h)
 | 0,f,vs,h=>Le.stuck _
 |k+1,f,vs,h=>by
  rw[Fk,Fk];split
  ·split
   ·exact Le.bind (ze (N6 tb k) _ _ _) λ_=>Le.refl _
   ·exact Le.refl _
  ·exact Le.refl _
theorem Le.trans{α:Type}{a b c:Res α}(h:Le a b)(k:Le b c):Le a c:=by
 rcases h with rfl|rfl
 ·exact .inl rfl
 ·exact k
theorem Js(tb:List Fn)(k f:Nat)(vs:List V)(h:AH):∀n,Le (Fk tb k f vs h) (Fk tb (k+n) f vs h)
 | 0=>Le.refl _
 |n+1=>(Js tb k f vs h n).trans (N6 tb (k+n) f vs h)
theorem qDm{tb:List Fn}{k n f:Nat}{vs:List V}{h:AH}{r:V×AH}(e:Fk tb k f vs h=.ok r):Fk tb (k+n) f vs h=.ok r:=by
 rcases Js tb k f vs h n with q|q
 ·rw[q]at e;cases e
 ·rw[<-q];exact e
mutual
noncomputable def unl:S->S
 | .inl f _ _ as=>.ret (.call f as)
 | .rett as=>.ret (.tup as)
 | .ifs c t u=>.ifs c (c8 t) (c8 u)
 |s=>s
noncomputable def c8:Ss->Ss
 | .nil=>.nil
 | .cons s r=>.cons (unl s) (c8 r)
end
noncomputable def B7:Es->Nat
 | .nil=>0
 | .cons _ as=>B7 as+1
mutual
def qAw(tb:List Fn):S->Prop
 | .inl f ns b as=>(tb[f]?=some ⟨B7 as,ns,c8 b⟩/\B7 as<=ns)/\Zp tb b
 | .ifs _ t u=>Zp tb t/\Zp tb u
 |_=>True
def Zp(tb:List Fn):Ss->Prop
 | .nil=>True
 | .cons s r=>qAw tb s/\Zp tb r
end
mutual
noncomputable def dep:S->Nat
 | .inl _ _ b _=>j9 b+1
 | .ifs _ t u=>max (j9 t) (j9 u)
 |_=>0
noncomputable def j9:Ss->Nat
 | .nil=>0
 | .cons s r=>max (dep s) (j9 r)
end
theorem Jd(F:Nat->List V->AH->RV)(σ:St):∀(as:Es) (h h1:AH) (vs:List V),evs F as σ h=.ok (vs,h1)->vs.length=B7 as
 | .nil,h,h1,vs,e=>by
  rw[evs]at e;cases e;rfl
 | .cons a as,h,h1,vs,e=>by
  rw[evs]at e;dsimp only at e;cases ha:ev F a σ h with
  |stuck=>rw[ha]at e;cases e
  |exc c h=>rw[ha]at e;cases e
  |ok p=>
   obtain⟨x,h2⟩:=p;rw[ha,Res.bind_ok]at e;dsimp only at e;cases hs:evs F as σ h2 with
   |stuck=>rw[hs]at e;cases e
   |exc c h=>rw[hs]at e;cases e
   |ok q=>
    obtain⟨xs,h3⟩:=q;rw[hs]at e;cases e;show xs.length+1=_;rw[Jd F σ as h2 h3 xs hs];rfl
section
variable{tb:List Fn}{F:Nat->List V->AH->RV}
theorem jB{s:S}{n m:Nat}{σ:St}{h:AH}(e:unl s=s)(hF:∀f vs h,Le (F f vs h) (Fk tb n f vs h))(hm:n<=m):Le (ex F s σ h) (ex (Fk tb m) (unl s) σ h):=by
 have hG:∀f vs h,Le (F f vs h) (Fk tb m f vs h):=λf vs h=>by
  obtain⟨d,rfl⟩:∃d,m=n+d:=⟨m-n,by omega⟩
  exact(hF f vs h).trans (Js tb n f vs h d)
 rw[e];exact B1 hG s σ h
mutual
theorem qBD:∀(s:S) (n m:Nat) (σ:St) (h:AH),(∀f vs h,Le (F f vs h) (Fk tb n f vs h))->qAw tb s->n+dep s<=m->Le (ex F s σ h) (ex (Fk tb m) (unl s) σ h)
 | .inl f ns b as,n,m,σ,h,hF,ok,hm=>by
  unfold qAw at ok;unfold dep at hm;obtain⟨⟨e1,e2⟩,e3⟩:=ok;obtain⟨m1,rfl⟩:∃m1,m=m1+1:=⟨m-1,by omega⟩
  have hG:∀f vs h,Le (F f vs h) (Fk tb (m1+1) f vs h):=λf vs h=>by
   obtain⟨d,hd⟩:∃d,m1+1=n+d:=⟨m1+1-n,by omega⟩
   rw[hd];exact(hF f vs h).trans (Js tb n f vs h d)
  rw[unl,ex,ex];dsimp only;rw[show ev (Fk tb (m1+1)) (.call f as) σ h=(evs (Fk tb (m1+1)) as σ h).bind λp=>(Fk tb (m1+1) f p.1 p.2).nx from by rw[ev]];rcases qx hG as σ h with z|z
  ·rw[z];exact Le.stuck _
  ·rw[<-z];cases hv:evs F as σ h with
   |stuck=>exact Le.stuck _
   |exc c h=>exact Le.refl _
   |ok p=>
    obtain⟨vs,h1⟩:=p;rw[Res.bind_ok,Res.bind_ok];dsimp only;have hl:=Jd F σ as h h1 vs hv;rw[if_pos (by rw[hl];exact e2),Fk,e1];dsimp only;rw[if_pos ⟨hl,e2⟩,hl];have k:=Qg b n m1 (vs.map some++List.replicate (ns-B7 as) none) h1 hF e3 (by omega);revert k;generalize exs F b (vs.map some++List.replicate (ns-B7 as) none) h1=r;generalize exs (Fk tb m1) (c8 b) (vs.map some++List.replicate (ns-B7 as) none) h1=r2;intro k;rcases k with rfl|rfl
    ·exact Le.stuck _
    ·cases r with
     |stuck=>exact Le.stuck _
     |exc c h=>exact Le.stuck _
     |ok q=>
      obtain⟨o,h2⟩:=q;cases o<;>first|exact Le.refl _|exact Le.stuck _
 | .ifs c t u,n,m,σ,h,hF,ok,hm=>by
  unfold qAw at ok;unfold dep at hm;have hG:∀f vs h,Le (F f vs h) (Fk tb m f vs h):=λf vs h=>by
   obtain⟨d,rfl⟩:∃d,m=n+d:=⟨m-n,by omega⟩
   exact(hF f vs h).trans (Js tb n f vs h d)
  rw[unl,ex,ex];refine Le.bind (Le.asB (qD hG c σ h)) λ(x,h1)=>?_;dsimp only;split
  ·exact Qg t n m σ h1 hF ok.1 (by omega)
  ·exact Qg u n m σ h1 hF ok.2 (by omega)
 | .rett as,n,m,σ,h,hF,ok,hm=>by
  have hG:∀f vs h,Le (F f vs h) (Fk tb m f vs h):=λf vs h=>by
   obtain⟨d,rfl⟩:∃d,m=n+d:=⟨m-n,by omega⟩
   exact(hF f vs h).trans (Js tb n f vs h d)
  exact B1 hG (.rett as) σ h
 | .asg g e,n,m,σ,h,hF,ok,hm=>jB (s:=.asg g e) rfl hF (by omega)
 | .put o i v,n,m,σ,h,hF,ok,hm=>jB (s:=.put o i v) rfl hF (by omega)
 | .expr e,n,m,σ,h,hF,ok,hm=>jB (s:=.expr e) rfl hF (by omega)
 | .ret e,n,m,σ,h,hF,ok,hm=>jB (s:=.ret e) rfl hF (by omega)
 | .for_ g it b,n,m,σ,h,hF,ok,hm=>jB (s:=.for_ g it b) rfl hF (by omega)
 | .stop,n,m,σ,h,hF,ok,hm=>jB (s:=.stop) rfl hF (by omega)
theorem Qg:∀(s:Ss) (n m:Nat) (σ:St) (h:AH),(∀f vs h,Le (F f vs h) (Fk tb n f vs h))->Zp tb s->n+j9 s<=m->Le (exs F s σ h) (exs (Fk tb m) (c8 s) σ h)
 | .nil,n,m,σ,h,hF,ok,hm=>Le.refl _
 | .cons s r,n,m,σ,h,hF,ok,hm=>by
  unfold Zp at ok;unfold j9 at hm;rw[c8,exs,exs];refine Le.bind (qBD s n m σ h hF ok.1 (by omega)) λ(o,h1)=>?_;cases o
  ·exact Qg r n m _ h1 hF ok.2 (by omega)
  ·exact Le.refl _
  ·exact Le.refl _
  ·exact Le.refl _
end
end
theorem m7{tb:List Fn}{j np ns D:Nat}{b:Ss}(e:tb[j]?=some ⟨np,ns,c8 b⟩)(ok:Zp tb b)(hD:j9 b<=D):∀(k f:Nat) (vs:List V) (h:AH),Le (Fk (tb.set j ⟨np,ns,b⟩) k f vs h) (Fk tb (k*(D+1)) f vs h)
 | 0,f,vs,h=>Le.stuck _
 |k+1,f,vs,h=>by
  have ih:=m7 e ok hD k;rw[show (k+1)*(D+1)=(k*(D+1)+D)+1 by rw[Nat.succ_mul];omega,Fk,Fk];by_cases hf:j=f
  ·subst hf;rw[List.getElem?_set_self (List.getElem?_eq_some_iff.mp e).1,e];dsimp only;split
   ·exact Le.bind (Qg b (k*(D+1)) _ _ h ih ok (by omega)) λ_=>Le.refl _
   ·exact Le.refl _
  ·rw[wH hf];split
   ·split
    ·exact Le.bind (ze (λf vs h=>(ih f vs h).trans (Js tb _ f vs h D)) _ _ _) λ_=>Le.refl _
    ·exact Le.refl _
   ·exact Le.refl _
theorem Q7{tb:List Fn}{j np ns D k n f:Nat}{b:Ss}{vs:List V}{h:AH}{r:V×AH}(e:tb[j]?=some ⟨np,ns,c8 b⟩)(ok:Zp tb b)(hD:j9 b<=D)(q:Fk (tb.set j ⟨np,ns,b⟩) k f vs h=.ok r)(hn:k*(D+1)<=n):Fk tb n f vs h=.ok r:=by
 obtain⟨m,rfl⟩:∃m,n=k*(D+1)+m:=⟨n-k*(D+1),by omega⟩
 rcases m7 e ok hD k f vs h with z|z
 ·rw[z]at q;cases q
 ·exact qDm (z ▸ q)
open PySem PySem.Spec PyProof.Rows
open L2 (Hp HO Cx PE PT PA PS PSs TE TT TA TS VK upd qF qE SqL SqT Qx)
def rv(φ:List Addr):V->V->Prop
 | .ref i,.ref a=>φ[i]?=some a
 | .non,.non=>True
 | .bl b,.bl c=>b=c
 | .int i,.int j=>i=j
 | .str x,.str y=>x=y
 |_,_=>False
abbrev rvs(φ:List Addr):List V->List V->Prop:=Paired (rv φ)
def ropt(φ:List Addr):Option V->Option V->Prop
 |some v,oc=>∃w,oc=some w/\rv φ v w
 |none,_=>True
abbrev rst(φ:List Addr):St->St->Prop:=Paired (ropt φ)
def Ext(φ φ':List Addr):Prop:=∃r,φ'=φ++r
theorem Ext.refl(φ:List Addr):Ext φ φ:=⟨[],by simp⟩
theorem Ext.trans{a b c:List Addr}(h:Ext a b)(g:Ext b c):Ext a c:=by
 obtain⟨r,rfl⟩:=h;obtain⟨q,rfl⟩:=g;exact⟨r++q,by simp⟩
theorem Ext.get{φ φ':List Addr}(x:Ext φ φ'){i:Nat}{a:Addr}(h:φ[i]?=some a):φ'[i]?=some a:=by
 obtain⟨r,rfl⟩:=x;rw[List.getElem?_append_left (List.getElem?_eq_some_iff.mp h).1];exact h
theorem rv.mono{φ φ':List Addr}(x:Ext φ φ'):∀{v w:V},rv φ v w->rv φ' v w
 | .ref i,.ref a,h=>x.get h
 | .non,.non,h=>h
 | .bl _,.bl _,h=>h
 | .int _,.int _,h=>h
 | .str _,.str _,h=>h
 | .byt _,_,h=>by cases h
 | .flt _,_,h=>by cases h
 | .ty _,_,h=>by cases h
theorem rvs.mono{φ φ':List Addr}(x:Ext φ φ'){vs ws:List V}(h:rvs φ vs ws):rvs φ' vs ws:=L2.Paired.mapP h λ_ _ r=>rv.mono x r
theorem ropt.mono{φ φ':List Addr}(x:Ext φ φ'):∀{v w:Option V},ropt φ v w->ropt φ' v w
 |some v,oc,h=>by obtain⟨w,e,r⟩:=h;exact⟨w,e,rv.mono x r⟩
 |none,_,_=>trivial
theorem rst.mono{φ φ':List Addr}(x:Ext φ φ'){σ τ:St}(h:rst φ σ τ):rst φ' σ τ:=L2.Paired.mapP h λ_ _ r=>ropt.mono x r
theorem qK{α β:Type}{R:α->β->Prop}:∀{xs:List α}{ys:List β}{i:Nat}{x:α},Paired R xs ys->xs[i]?=some x->∃y,ys[i]?=some y/\R x y
 |_,_,_,_,.nil,e=>by simp at e
 |_,_,0,_,.cons r _,e=>by simp at e;subst e;exact⟨_,rfl,r⟩
 |_,_,i+1,x,.cons _ t,e=>by
  obtain⟨u,h1,h2⟩:=qK (i:=i) (x:=x) t (by simpa using e);exact⟨u,by simpa using h1,h2⟩
theorem zW{α β:Type}{R:α->β->Prop}{x:α}{u:β}(r:R x u):∀{xs:List α}{us:List β}(i:Nat),Paired R xs us->Paired R (xs.set i x) (us.set i u)
 |_,_,_,.nil=>.nil
 |_,_,0,.cons _ t=>.cons r t
 |_,_,i+1,.cons q t=>.cons q (zW r i t)
theorem qO{α β:Type}{R:α->β->Prop}:∀{xs ys:List α}{us ws:List β},Paired R xs us->Paired R ys ws->Paired R (xs++ys) (us++ws)
 |_,_,_,_,.nil,s=>s
 |_,_,_,_,.cons r t,s=>.cons r (qO t s)
theorem qu{α β:Type}{R:α->β->Prop}:∀{xs:List α}{us:List β}(n:Nat),Paired R xs us->Paired R (xs.take n) (us.take n)
 |_,_,0,_=>.nil
 |_,_,_+1,.nil=>.nil
 |_,_,n+1,.cons r t=>.cons r (qu n t)
theorem jL{α β:Type}{R:α->β->Prop}:∀{xs:List α}{us:List β}(n:Nat),Paired R xs us->Paired R (xs.drop n) (us.drop n)
 |_,_,0,r=>r
 |_,_,_+1,.nil=>.nil
 |_,_,n+1,.cons _ t=>jL n t
theorem ZP{α β:Type}{R:α->β->Prop}{xs:List α}{us:List β}(h:Paired R xs us):∀k:Nat,Paired R (List.replicate k xs).flatten (List.replicate k us).flatten
 | 0=>.nil
 |k+1=>by
  rw[List.replicate_succ,List.replicate_succ,List.flatten_cons,List.flatten_cons];exact qO h (ZP h k)
noncomputable def kk(p:Int×V):L2.Key×V:=(.inl p.1,p.2)
noncomputable def O.mu:O->Bool
 | .lst false _=>true | .ob (.dct _)=>true|_=>false
def exP(a C:Addr):Heap->Prop:=λh=>∃o,h.get? a=some o/\o.cls=.ref C
def ro(K:PySem.W.Frag)(φ:List Addr)(H:Hp)(a:Addr):O->Prop
 | .lst false xs=>∃ys,H a=some (.lst ys)/\rvs φ xs ys
 | .lst true xs=>∃ys,((∃o,H a=some (.frz o (.lst ys)))\/SqL K (λ_=>none) a ys)/\rvs φ xs ys
 | .tup xs=>∃ys,SqT K H a ys/\rvs φ xs ys
 | .ob (.dct kvs)=>H a=some (.dK (kvs.map kk))
 | .ob (.exn x)=>∃C,PySem.W.nsIn K mainGlobals x=some (some (.ref C))/\H a=some (.ext (exP a C))
structure Rl(K:PySem.W.Frag)(G:List Addr)(φ:List Addr)(h:AH)(H:Hp):Prop where
 len:φ.length=h.length
 glob:Ext G φ
 obj:∀(i:Nat) o a,h[i]?=some o->φ[i]?=some a->ro K φ H a o
 inj:∀(i j:Nat) x y a,x.mu=true->y.mu=true->h[i]?=some x->h[j]?=some y->φ[i]?=some a->φ[j]?=some a->i=j
section
variable{K:PySem.W.Frag}{G φ φ':List Addr}{h:AH}{H H':Hp}{a b p:Addr}
theorem a6{xs:List V}(s:Qx H H')(q:SqT K H a xs):SqT K H' a xs:=by
 rcases q with(h|⟨o,h⟩)|h
 ·exact .inl (.inl (s _ _ h))
 ·exact .inl (.inr ⟨o,s _ _ h⟩)
 ·exact .inr h
theorem Z6{xs:List V}(q:SqL K (λ_=>none) a xs):SqL K H a xs:=by
 rcases q with(h|⟨o,h⟩)|h
 ·cases h
 ·cases h
 ·exact .inr h
theorem Zb{o:HO}(hp:H p=none):Qx H (upd H p o):=λb u e=>by rw[qE (L2.ne_of_none e hp)];exact e
theorem ro.keep{o:O}(x:Ext φ φ')(s:Qx H H')(r:ro K φ H a o):ro K φ' H' a o:=by
 match o,r with
 | .lst false xs,⟨ys,e,r⟩=>exact⟨ys,s _ _ e,rvs.mono x r⟩
 | .lst true xs,⟨ys,.inl ⟨o,e⟩,r⟩=>exact⟨ys,.inl ⟨o,s _ _ e⟩,rvs.mono x r⟩
 | .lst true xs,⟨ys,.inr e,r⟩=>exact⟨ys,.inr e,rvs.mono x r⟩
 | .tup xs,⟨ys,e,r⟩=>exact⟨ys,a6 s e,rvs.mono x r⟩
 | .ob (.dct _),e=>exact s _ _ e
 | .ob (.exn _),⟨C,e1,e2⟩=>exact⟨C,e1,s _ _ e2⟩
def Wr(w:HO):Prop:=(∃zs,w=.lst zs)\/∃ks,w=.dK ks
theorem ro.wr{o:O}(m:o.mu=true)(r:ro K φ H a o):∃w,H a=some w/\Wr w:=by
 match o,m,r with
 | .lst false xs,_,⟨ys,e,r⟩=>exact⟨_,e,.inl ⟨_,rfl⟩⟩
 | .ob (.dct _),_,e=>exact⟨_,e,.inr ⟨_,rfl⟩⟩
theorem Wr.ne{w v:HO}(h:Wr w)(e:H a=some v)(hb:H b=some w)(h1:∀zs,v≠.lst zs)(h2:∀ks,v≠.dK ks):a≠b:=λz=>by
 subst z;rw[e]at hb;cases hb;rcases h with⟨zs,rfl⟩|⟨ks,rfl⟩
 ·exact h1 _ rfl
 ·exact h2 _ rfl
theorem ro.other{o:O}{w w':HO}(hw:Wr w)(hb:H b=some w)(hne:o.mu=true->a≠b)(r:ro K φ H a o):ro K φ (upd H b w') a o:=by
 match o,r with
 | .lst false xs,⟨ys,e,r⟩=>exact⟨ys,by rw[qE (hne rfl)];exact e,r⟩
 | .lst true xs,⟨ys,.inl ⟨o,e⟩,r⟩=>exact⟨ys,.inl ⟨o,by rw[qE (hw.ne e hb (λ_ z=>by cases z) (λ_ z=>by cases z))];exact e⟩,r⟩
 | .lst true xs,⟨ys,.inr e,r⟩=>exact⟨ys,.inr e,r⟩
 | .tup xs,⟨ys,e,r⟩=>
  refine⟨ys,?_,r⟩;rcases e with(h|⟨o,h⟩)|h
  ·exact .inl (.inl (by rw[qE (hw.ne h hb (λ_ z=>by cases z) (λ_ z=>by cases z))];exact h))
  ·exact .inl (.inr ⟨o,by rw[qE (hw.ne h hb (λ_ z=>by cases z) (λ_ z=>by cases z))];exact h⟩)
  ·exact .inr h
 | .ob (.dct _),e=>exact(by show upd H b _ a=_;rw[qE (hne rfl)];exact e)
 | .ob (.exn _),⟨C,e1,e2⟩=>exact⟨C,e1,by rw[qE (hw.ne e2 hb (λ_ z=>by cases z) (λ_ z=>by cases z))];exact e2⟩
theorem Rl.at(R:Rl K G φ h H){i:Nat}{o:O}(e:h[i]?=some o):∃a,φ[i]?=some a/\ro K φ H a o:=by
 have hi:i<φ.length:=by rw[R.len];exact(List.getElem?_eq_some_iff.mp e).1
 exact⟨φ[i],wA hi,R.obj i o _ e (wA hi)⟩
theorem Rl.new(R:Rl K G φ h H)(hp:H p=none){o:O}{ob:HO}(n:ro K (φ++[p]) (upd H p ob) p o):Rl K G (φ++[p]) (h++[o]) (upd H p ob):=by
 have x:Ext φ (φ++[p]):=⟨[p],rfl⟩
 refine⟨by simp[R.len],R.glob.trans x,λi u a e1 e2=>?_,λi j xs ys a m1 m2 e1 e2 e3 e4=>?_⟩
 ·by_cases hi:i<h.length
  ·rw[List.getElem?_append_left hi]at e1;rw[List.getElem?_append_left (by rw[R.len];exact hi)]at e2;exact(R.obj i u a e1 e2).keep x (Zb hp)
  ·have hi':i=h.length:=by
    have:=(List.getElem?_eq_some_iff.mp e1).1;simp at this;omega
   subst hi';simp at e1;rw[<-R.len]at e2;simp at e2;subst e1 e2;exact n
 ·have lt:∀{k:Nat}{z:O},(h++[o])[k]?=some z->(h[k]?=some z/\k<h.length)\/k=h.length:=λ{k zs} e=>by
   by_cases hk:k<h.length
   ·rw[List.getElem?_append_left hk]at e;exact .inl ⟨e,hk⟩
   ·have:=(List.getElem?_eq_some_iff.mp e).1;simp at this;exact .inr (by omega)
  have old:∀{k:Nat}{b:Addr},k<h.length->(φ++[p])[k]?=some b->φ[k]?=some b:=λ{k b} hk e=>by
   rwa [List.getElem?_append_left (by rw[R.len];exact hk)]at e
  have newA:∀{b:Addr},(φ++[p])[h.length]?=some b->b=p:=λ{b} e=>by
   rw[<-R.len]at e;simp at e;exact e.symm
  rcases lt e1 with⟨e1,h1⟩|rfl<;>rcases lt e2 with⟨e2,h2⟩|rfl
  ·exact R.inj i j xs ys a m1 m2 e1 e2 (old h1 e3) (old h2 e4)
  ·have ea:=newA e4;subst ea;obtain⟨w,hz,_⟩:=(R.obj i _ a e1 (old h1 e3)).wr m1;rw[hp]at hz;cases hz
  ·have ea:=newA e3;subst ea;obtain⟨w,hz,_⟩:=(R.obj j _ a e2 (old h2 e4)).wr m2;rw[hp]at hz;cases hz
  ·rfl
theorem Rl.more(R:Rl K G φ h H)(hp:H p=none){ob:HO}:Rl K G φ h (upd H p ob):=
 ⟨R.len,R.glob,λi u a e1 e2=>(R.obj i u a e1 e2).keep (Ext.refl _) (Zb hp),R.inj⟩
theorem Rl.exn(R:Rl K G φ h H){i:Nat}{x:Str}(e:qBO h i=some x):∃a C,φ[i]?=some a/\PySem.W.nsIn K mainGlobals x=some (some (.ref C))/\H a=some (.ext (exP a C)):=by
 unfold qBO at e;split at e
 ·rename_i c q;cases e;obtain⟨a,ea,C,r1,r2⟩:=R.at q;exact⟨a,C,ea,r1,r2⟩
 ·cases e
theorem Rl.newL(R:Rl K G φ h H)(hp:H p=none){xs ys:List V}(r:rvs φ xs ys):Rl K G (φ++[p]) (h++[.lst false xs]) (upd H p (.lst ys)):=
 R.new hp ⟨ys,qF,rvs.mono ⟨[p],rfl⟩ r⟩
theorem Rl.newT(R:Rl K G φ h H)(hp:H p=none){xs ys:List V}(r:rvs φ xs ys):Rl K G (φ++[p]) (h++[.tup xs]) (upd H p (.tup ys)):=
 R.new hp ⟨ys,.inl (.inl qF),rvs.mono ⟨[p],rfl⟩ r⟩
theorem Rl.lastRef(R:Rl K G φ h H):(φ++[p])[h.length]?=some p:=by rw[<-R.len];simp
theorem Rl.write(R:Rl K G φ h H){i:Nat}{x y:O}{w':HO}(mx:x.mu=true)(my:y.mu=true)(e:h[i]?=some x)(ea:φ[i]?=some a)(n:ro K φ (upd H a w') a y):Rl K G φ (h.set i y) (upd H a w'):=by
 have hi:=(List.getElem?_eq_some_iff.mp e).1;obtain⟨w,hw,ww⟩:=(R.obj i _ a e ea).wr mx;have lk:∀{k:Nat}{z:O},z.mu=true->(h.set i y)[k]?=some z->∃z',z'.mu=true/\h[k]?=some z':=λ{k zs} m q=>by
  by_cases hk:k=i
  ·subst hk;exact⟨x,mx,e⟩
  ·rw[wH (Ne.symm hk)]at q;exact⟨zs,m,q⟩
 refine⟨by simp[R.len],R.glob,λk u b e1 e2=>?_,λk l us vs b m1 m2 e1 e2 e3 e4=>?_⟩
 ·by_cases hk:k=i
  ·subst hk;rw[List.getElem?_set_self hi]at e1;rw[ea]at e2;cases e1;cases e2;exact n
  ·rw[wH (Ne.symm hk)]at e1;refine(R.obj k u b e1 e2).other ww hw λmu hb=>?_;subst hb;exact hk (R.inj k i u x b mu mx e1 e e2 ea)
 ·obtain⟨z1,n1,q1⟩:=lk m1 e1;obtain⟨z2,n2,q2⟩:=lk m2 e2;exact R.inj k l z1 z2 b n1 n2 q1 q2 e3 e4
theorem Rl.set(R:Rl K G φ h H){i:Nat}{xs ys zs:List V}(e:h[i]?=some (.lst false xs))(ea:φ[i]?=some a)(r:rvs φ ys zs):Rl K G φ (h.set i (.lst false ys)) (upd H a (.lst zs)):=
 R.write rfl rfl e ea ⟨zs,qF,r⟩
theorem Rl.dct(R:Rl K G φ h H){i:Nat}{kvs:List (Int×V)}(e:Jv h i=some kvs):∃a,φ[i]?=some a/\h[i]?=some (.ob (.dct kvs))/\H a=some (.dK (kvs.map kk)):=by
 unfold Jv at e;split at e
 ·rename_i zs q;cases e;obtain⟨a,ea,r⟩:=R.at q;exact⟨a,ea,q,r⟩
 ·cases e
theorem Rl.lst(R:Rl K G φ h H){i:Nat}{xs:List V}(e:qQ h i=some xs):∃a ys,φ[i]?=some a/\SqL K H a ys/\rvs φ xs ys:=by
 unfold qQ at e;split at e
 ·rename_i fz zs q;cases e;obtain⟨a,ea,r⟩:=R.at q;cases fz with
  |false=>obtain⟨ys,e,r⟩:=r;exact⟨a,ys,ea,.inl (.inl e),r⟩
  |true=>
   obtain⟨ys,e,r⟩:=r;rcases e with⟨o,e⟩|e
   ·exact⟨a,ys,ea,.inl (.inr ⟨o,e⟩),r⟩
   ·exact⟨a,ys,ea,Z6 e,r⟩
 ·cases e
theorem Rl.tup(R:Rl K G φ h H){i:Nat}{xs:List V}(e:qU h i=some xs):∃a ys,φ[i]?=some a/\SqT K H a ys/\rvs φ xs ys:=by
 unfold qU at e;split at e
 ·rename_i zs q;cases e;obtain⟨a,ea,ys,e,r⟩:=R.at q;exact⟨a,ys,ea,e,r⟩
 ·cases e
theorem Rl.mut(R:Rl K G φ h H){i:Nat}{xs:List V}(e:qe h i=some xs):h[i]?=some (.lst false xs)/\∃a ys,φ[i]?=some a/\H a=some (.lst ys)/\rvs φ xs ys:=by
 unfold qe at e;split at e
 ·rename_i zs q;cases e;obtain⟨a,ea,ys,e,r⟩:=R.at q;exact⟨q,a,ys,ea,e,r⟩
 ·cases e
theorem Rl.its(R:Rl K G φ h H){i:Nat}{xs:List V}(e:items h i=some xs):∃a ys,φ[i]?=some a/\(SqL K H a ys\/SqT K H a ys)/\rvs φ xs ys:=by
 unfold items at e;split at e
 ·rename_i fz zs q;cases e;obtain⟨a,ys,h1,h2,h3⟩:=R.lst (i:=i) (xs:=xs) (by unfold qQ;rw[q]);exact⟨a,ys,h1,.inl h2,h3⟩
 ·rename_i zs q;cases e;obtain⟨a,ys,h1,h2,h3⟩:=R.tup (i:=i) (xs:=xs) (by unfold qU;rw[q]);exact⟨a,ys,h1,.inr h2,h3⟩
 ·cases e
end
open L2 (PG Inv RelV Vals EP TP AP SP OpR zD R2)
theorem Res.bind_inv{α β:Type}{r:Res α}{f:α->Res β}{x:β}(h:r.bind f=.ok x):∃a,r=.ok a/\f a=.ok x:=by
 cases r with
 |ok a=>exact⟨a,rfl,h⟩
 |exc c h'=>cases h
 |stuck=>cases h
theorem qB{φ:List Addr}{i:Int}{w:V}(h:rv φ (.int i) w):w=.int i:=by
 cases w with
 |int j=>exact congrArg V.int (show i=j from h).symm
 |_=>exact False.elim h
theorem zB{φ:List Addr}{i:Bool}{w:V}(h:rv φ (.bl i) w):w=.bl i:=by
 cases w with
 |bl j=>exact congrArg V.bl (show i=j from h).symm
 |_=>exact False.elim h
theorem zG{φ:List Addr}{i:Str}{w:V}(h:rv φ (.str i) w):w=.str i:=by
 cases w with
 |str j=>exact congrArg V.str (show i=j from h).symm
 |_=>exact False.elim h
theorem qj{φ:List Addr}{w:V}(h:rv φ .non w):w=.non:=by
 cases w with
 |non=>rfl
 |_=>exact False.elim h
theorem qL{φ:List Addr}{i:Nat}{w:V}(h:rv φ (.ref i) w):∃a,w=.ref a/\φ[i]?=some a:=by
 cases w with
 |ref j=>exact⟨j,rfl,h⟩
 |_=>exact False.elim h
section
variable (K:PySem.W.Frag)(G:List Addr)(F:Nat->List V->AH->RV)
noncomputable def tE(e:E):TE:=λσc H Q=>∃φ h σ v h',Rl K G φ h H/\rst φ σ σc/\ev F e σ h=.ok (v,h')/\∀φ' H' w,Ext φ φ'->Rl K G φ' h' H'->rv φ' v w->Q w H'
noncomputable def tB(r:St->AH->Res (Bool×AH)):TT:=λσc H Q=>∃φ h σ b h',Rl K G φ h H/\rst φ σ σc/\r σ h=.ok (b,h')/\∀φ' H',Ext φ φ'->Rl K G φ' h' H'->Q b H'
noncomputable abbrev tT(e:E):TT:=tB K G (λσ h=>asB (ev F e σ h))
noncomputable def tL(as:Es):TA:=λσc H Q=>∃φ h σ vs h',Rl K G φ h H/\rst φ σ σc/\evs F as σ h=.ok (vs,h')/\∀φ' H' ws,Ext φ φ'->Rl K G φ' h' H'->rvs φ' vs ws->Q ws H'
end
section
variable{X:Cx}{G:List Addr}{F:Nat->List V->AH->RV}
theorem qi{e:Expr}{t t':TE}(h:PE X e t)(w:∀σ H Q,t' σ H Q->t σ H Q):PE X e t':=λpins s σ H Q I q=>h pins s σ H Q I (w σ H Q q)
theorem g8{e:Expr}{t t':TT}(h:PT X e t)(w:∀σ H Q,t' σ H Q->t σ H Q):PT X e t':=λpins s σ H Q I q=>h pins s σ H Q I (w σ H Q q)
theorem qBw{e:List Expr}{t t':TA}(h:PA X e t)(w:∀σ H Q,t' σ H Q->t σ H Q):PA X e t':=λpos pins s σ H Q I q=>h pos pins s σ H Q I (w σ H Q q)
variable (X G F) in
abbrev SE(e:Expr)(a:E):Prop:=PE X e (tE X.K G F a)
variable (X G F) in
abbrev ST(e:Expr)(a:E):Prop:=PT X e (tT X.K G F a)
variable (X G F) in
abbrev SA(es:List Expr)(as:Es):Prop:=PA X es (tL X.K G F as)
variable{K:PySem.W.Frag}{φ φ':List Addr}{h h1 h2:AH}{H:Hp}{σ σc:St}{a b:E}{x y:V}
theorem jn(R:Rl K G φ h H)(rs:rst φ σ σc)(ea:ev F a σ h=.ok (x,h1))(eb:ev F b σ h1=.ok (y,h2)){Rr:V->V->Hp->Prop}
  (k:∀φ2 H2 xc yc,Ext φ φ2->Rl K G φ2 h2 H2->rv φ2 x xc->rv φ2 y yc->Rr xc yc H2):tE K G F a σc H (λxc H1=>tE K G F b σc H1 (λyc H2=>Rr xc yc H2)):=
 ⟨φ,h,σ,x,h1,R,rs,ea,λφ1 H1 xc e1 R1 r1=>⟨φ1,h1,σ,y,h2,R1,rst.mono e1 rs,eb,λφ2 H2 yc e2 R2 r2=>k φ2 H2 xc yc (e1.trans e2) R2 (rv.mono e2 r1) r2⟩⟩
theorem qBg{i:Nat}{n:Str}{pos:Pos}(hN:X.N[i]?=some n)(hv:L2.Vis X.env.scope n)(hd:(n==("__debug__":Str))=false)(hcd:(n==("__classdict__":Str))=false):SE X G F (.Name n pos) (.var i):=by
 refine qi (L2.pe_var hN hv hd hcd) λσc H Q q=>?_;obtain⟨φ,h,σ,v,h',R,rs,e,k⟩:=q;unfold ev at e;split at e
 ·rename_i w q;cases e;obtain⟨oc,ec,r⟩:=qK rs q;obtain⟨u,rfl,r⟩:=r;exact⟨u,ec,k φ H u (.refl _) R r⟩
 ·cases e
theorem P4{v:V}{w:V}{σc:St}{H:Hp}{Q:VK}(hr:∀φ,rv φ v w)(q:tE K G F (.cst v) σc H Q):L2.tC w σc H Q:=by
 obtain⟨φ,h,σ,v',h',R,rs,e,k⟩:=q;unfold ev at e;cases e;exact k φ H w (.refl _) R (hr φ)
theorem m4 {i j pos}:SE X G F (.Constant (.int i) j pos) (.cst (.int i)):=qi L2.pe_int λ_ _ _=>P4 λ_=>rfl
theorem qB6 {i j pos}:SE X G F (.Constant (.bool i) j pos) (.cst (.bl i)):=qi L2.pe_bl λ_ _ _=>P4 λ_=>rfl
theorem l6 {j pos}:SE X G F (.Constant .none j pos) (.cst .non):=qi L2.pe_non λ_ _ _=>P4 λ_=>trivial
theorem g9 {i j pos}:SE X G F (.Constant (.str i) j pos) (.cst (.str i)):=qi L2.pe_str λ_ _ _=>P4 λ_=>rfl
theorem v5{n:Str}{v:V}{u:Value}{pos:Pos}(hg:L2.Gl X n)(hm:X.mg n=some u)(r:RelV v u)(hv:∀φ,rv φ v v)(hd:(n==("__debug__":Str))=false):SE X G F (.Name n pos) (.cst v):=
 qi (L2.pe_glob hg hm r hd) λ_ _ _=>P4 hv
theorem qAj{n:Str}{g:Nat}{a:Addr}{pos:Pos}(hg:L2.Gl X n)(hm:X.mg n=some (.ref a))(hG:G[g]?=some a)(hd:(n==("__debug__":Str))=false):SE X G F (.Name n pos) (.glob g):=by
 refine qi (L2.pe_glob (v:=.ref a) hg hm rfl hd) λσc H Q q=>?_;obtain⟨φ,h,σ,v',h',R,rs,e,k⟩:=q;unfold ev at e;cases e;exact k φ H (.ref a) (.refl _) R (R.glob.get hG)
noncomputable def opB:BOp->Operator
 | .add=>.Add | .sub=>.Sub | .mul=>.Mult | .fdiv=>.FloorDiv | .mod=>.Mod | .pow=>.Pow | .band=>.BitAnd
def qEo(i j:Int):Prop:=j≠0/\j.natAbs.log2<9000
theorem X4:OpR X (binaryOp .FloorDiv) (L2.rI qEo λi j=>.int (i.fdiv j)):=L2.opI λ_ _ _ _ _ _ _ hc q=>floordiv_int hc.1 q (.inl (PyProof.noPylong_of_log2 hc.2))
def qEl(i j:Int):Prop:=i.natAbs.log2<9000/\j.natAbs.log2<9000
theorem G1{i:Int}(h:i.natAbs.log2<9000):Builtin.Int.intBits i<=2 ^ 20:=by
 unfold Builtin.Int.intBits;have e:(2:Nat) ^ 20=1048576:=by decide
 rw[e];split<;>omega
theorem qAV:OpR X (binaryOp .Mult) (L2.rI qEl λi j=>.int (i*j)):=L2.opI λ_ _ _ _ _ _ _ hc q=>mul_int q (IntMulOk.of_bits (G1 hc.1) (G1 hc.2))
theorem C1{i:Int}(h:mid i=true):i.natAbs.log2<9000:=vZ h
noncomputable def qE4(K:PySem.W.Frag):BOp->R2
 | .add=>λx y H Q=>(L2.rI0 (λi j=>.int (i+j)) x y H Q\/L2.rCat x y H Q)\/L2.rCatT K x y H Q
 | .sub=>L2.rI0 λi j=>.int (i-j)
 | .mul=>λx y H Q=>(L2.rI L2.CMul (λi j=>.int (i*j)) x y H Q\/L2.rRep x y H Q)\/L2.rI qEl (λi j=>.int (i*j)) x y H Q
 | .fdiv=>λx y H Q=>L2.rI L2.CDiv (λi j=>.int (i / j)) x y H Q\/L2.rI qEo (λi j=>.int (i.fdiv j)) x y H Q
 | .mod=>λx y H Q=>L2.rI (λ_ j=>0<j) (λi j=>.int (i % j)) x y H Q\/L2.rI (λ_ j=>j≠0) (λi j=>.int (i.fmod j)) x y H Q
 | .pow=>L2.rI L2.CPow λi j=>.int (i ^ j.toNat)
 | .band=>L2.rI0 λi j=>.int (Builtin.bitAnd i j)
theorem qAE:∀op,OpR X (binaryOp (opB op)) (qE4 X.K op)
 | .add=>(L2.op_add.or L2.op_cat).or L2.op_catT
 | .sub=>L2.op_sub
 | .mul=>(L2.op_mul.or L2.op_rep).or qAV
 | .fdiv=>L2.op_fdiv.or X4
 | .mod=>L2.op_mod.or L2.op_modN
 | .pow=>L2.op_pow
 | .band=>L2.op_and
theorem QD:lim<=sizeLine:=by decide
theorem l0:lim<sizeLine:=by decide
theorem G4{i:Int}(h:QH i=true):-(2 ^ 64)<i/\i<2 ^ 64:=by
 unfold QH two64 at h;have:=vZ h;omega
theorem v3{op:BOp}{v xc yc:V}{h':AH}{Q:VK}(e:qCQ op x y h=.ok (v,h'))(R:Rl K G φ h H)(rx:rv φ x xc)(ry:rv φ y yc)
  (k:∀φ' H' w,Ext φ φ'->Rl K G φ' h' H'->rv φ' v w->Q w H'):qE4 K op xc yc H Q:=by
 cases op with
 |add=>
  dsimp only[qCQ]at e;split at e
  ·replace e:=jA e;obtain⟨b,rfl,e⟩:=e;split at e
   ·rename_i xs ys e1 e2;split at e
    ·rename_i hl;cases e;obtain⟨q1,a1,ys1,ha1,hH1,r1⟩:=R.mut e1;obtain⟨q2,a2,ys2,ha2,hH2,r2⟩:=R.mut e2;obtain⟨b1,rfl,hb1⟩:=qL rx;obtain⟨b2,rfl,hb2⟩:=qL ry;rw[ha1]at hb1;cases hb1;rw[ha2]at hb2;cases hb2;refine .inl (.inr ⟨a1,a2,ys1,ys2,rfl,rfl,hH1,hH2,?_,λp hp=>k (φ++[p]) _ _ ⟨[p],rfl⟩ (R.newL hp (qO r1 r2)) R.lastRef⟩);have l1:=Paired.length r1;have l2:=Paired.length r2;have:=QD;omega
    ·cases e
   ·split at e
    ·rename_i xs ys e1 e2;split at e
     ·rename_i hl;obtain⟨a1,ys1,ha1,hH1,r1⟩:=R.tup e1;obtain⟨a2,ys2,ha2,hH2,r2⟩:=R.tup e2;obtain⟨b1,rfl,hb1⟩:=qL rx;obtain⟨b2,rfl,hb2⟩:=qL ry;rw[ha1]at hb1;cases hb1;rw[ha2]at hb2;cases hb2;have l1:=Paired.length r1;have l2:=Paired.length r2;refine .inr ⟨a1,a2,ys1,ys2,rfl,rfl,hH1,hH2,?_,?_,λz=>?_,λz p hp=>?_⟩
      ·rintro rfl;exact hl.1 (List.length_eq_zero_iff.mp l1)
      ·have:=QD;omega
      ·subst z;rw[if_pos (List.length_eq_zero_iff.mp l2)]at e;cases e;exact k φ H _ (.refl _) R ha1
      ·rw[if_neg (λq=>z (by subst q;exact List.length_eq_zero_iff.mp l2.symm))]at e;cases e;exact k (φ++[p]) _ _ ⟨[p],rfl⟩ (R.newT hp (qO r1 r2)) R.lastRef
     ·cases e
    ·cases e
  ·replace e:=zI e;obtain⟨i,j,rfl,rfl,e⟩:=e;cases e;cases qB rx;cases qB ry;exact .inl (.inl ⟨_,_,rfl,rfl,k φ H _ (.refl _) R rfl⟩)
 |sub=>
  replace e:=zI e;obtain⟨i,j,rfl,rfl,e⟩:=e;cases e;cases qB rx;cases qB ry;exact⟨_,_,rfl,rfl,k φ H _ (.refl _) R rfl⟩
 |mul=>
  dsimp only[qCQ]at e;split at e
  ·split at e
   ·split at e
    ·rename_i xs e1;split at e
     ·rename_i hl;obtain⟨h0,hl,h3⟩:=hl;cases e;obtain⟨q1,a1,ys1,ha1,hH1,r1⟩:=R.mut e1;obtain⟨b1,rfl,hb1⟩:=qL rx;rw[ha1]at hb1;cases hb1;cases qB ry;refine .inl (.inr ⟨a1,_,ys1,rfl,rfl,hH1,by omega,by omega,?_,λp hp=>k (φ++[p]) _ _ ⟨[p],rfl⟩ (R.newL hp (ZP r1 _)) R.lastRef⟩);have l1:=Paired.length r1;have:=QD;rw[<-l1];omega
     ·cases e
    ·cases e
   ·cases e
  ·replace e:=zI e;obtain⟨i,j,rfl,rfl,e⟩:=e;split at e
   ·rename_i hs;cases e;cases qB rx;cases qB ry;rw[vN,vN,Bool.and_eq_true]at hs;rcases hs with(z|z)|z
    ·exact .inl (.inl ⟨_,_,rfl,rfl,.inl (G4 z),k φ H _ (.refl _) R rfl⟩)
    ·exact .inl (.inl ⟨_,_,rfl,rfl,.inr (G4 z),k φ H _ (.refl _) R rfl⟩)
    ·exact .inr ⟨_,_,rfl,rfl,⟨C1 z.1,C1 z.2⟩,k φ H _ (.refl _) R rfl⟩
   ·cases e
 |fdiv=>
  replace e:=zI e;obtain⟨i,j,rfl,rfl,e⟩:=e;split at e
  ·rename_i hc;cases e;cases qB rx;cases qB ry;rcases hc.2 with z|z
   ·exact .inl ⟨_,_,rfl,rfl,⟨hc.1,z⟩,k φ H _ (.refl _) R rfl⟩
   ·refine .inr ⟨_,_,rfl,rfl,⟨by omega,C1 z⟩,?_⟩;dsimp only;rw[Int.fdiv_eq_ediv_of_nonneg _ (by omega)];exact k φ H _ (.refl _) R rfl
  ·split at e
   ·rename_i hc;cases e;cases qB rx;cases qB ry;exact .inr ⟨_,_,rfl,rfl,⟨by omega,C1 hc.2⟩,k φ H _ (.refl _) R rfl⟩
   ·cases e
 |mod=>
  replace e:=zI e;obtain⟨i,j,rfl,rfl,e⟩:=e;split at e
  ·rename_i hc;cases e;cases qB rx;cases qB ry;exact .inl ⟨_,_,rfl,rfl,hc,k φ H _ (.refl _) R rfl⟩
  ·split at e
   ·rename_i hc;cases e;cases qB rx;cases qB ry;exact .inr ⟨_,_,rfl,rfl,(by omega),k φ H _ (.refl _) R rfl⟩
   ·cases e
 |pow=>
  replace e:=zI e;obtain⟨i,j,rfl,rfl,e⟩:=e;split at e
  ·rename_i hc;cases e;cases qB rx;cases qB ry;refine⟨_,_,rfl,rfl,⟨hc.1,by omega,by omega⟩,k φ H _ (.refl _) R rfl⟩
  ·cases e
 |band=>
  replace e:=zI e;obtain⟨i,j,rfl,rfl,e⟩:=e;cases e;cases qB rx;cases qB ry;exact⟨_,_,rfl,rfl,k φ H _ (.refl _) R rfl⟩
theorem m8{op:BOp}{ea eb:Expr}{pos:Pos}(ha:SE X G F ea a)(hb:SE X G F eb b):SE X G F (.BinOp ea (opB op) eb pos) (.bin op a b):=by
 refine qi (L2.pe_op (qAE op) ha hb) λσc H Q q=>?_;obtain⟨φ,h,σ,v,h',R,rs,e,k⟩:=q;unfold ev at e;obtain⟨⟨x,h1⟩,e1,e⟩:=Res.bind_inv e;obtain⟨⟨y,h2⟩,e2,e⟩:=Res.bind_inv e;exact jn R rs e1 e2 λφ2 H2 xc yc x2 R2 r1 r2=>v3 e R2 r1 r2 λφ' H' w x' R' r'=>k φ' H' w (x2.trans x') R' r'
theorem qBd{ea:Expr}{pos:Pos}(ha:SE X G F ea a):SE X G F (.UnaryOp .USub ea pos) (.neg a):=by
 refine qi (L2.pe_un L2.un_neg ha) λσc H Q q=>?_;obtain⟨φ,h,σ,v,h',R,rs,e,k⟩:=q;unfold ev at e;obtain⟨⟨x,h1⟩,e1,e⟩:=Res.bind_inv e;refine⟨φ,h,σ,x,h1,R,rs,e1,λφ1 H1 xc x1 R1 r1=>?_⟩;dsimp only at e;split at e
 ·cases e;cases qB r1;exact⟨_,rfl,k φ1 H1 _ x1 R1 rfl⟩
 ·cases e
end
open PySem.SeqAt
structure Eq3(A:Around)(s:Shared)(u w:Value)(b:Bool):Prop where
 eq:EqAt A s u w b
 rc:RcAt A s u w b
 ne:RcNeAt A s u w (!b)
theorem Jj{A:Around}{s:Shared}{φ:List Addr}:∀{x y xc yc:V}{u w:Value}{b:Bool},eqF x y=some b->rv φ x xc->rv φ y yc->RelV xc u->RelV yc w->Eq3 A s u w b:=by
 intro x y xc yc u w b e rx ry ru rw';cases x with
 |non=>
  cases qj rx;cases ru;cases y with
  |non=>cases qj ry;cases rw';cases e;exact⟨.same _,.none_none,.none_none⟩
  |bl j=>cases zB ry;cases rw';cases e;exact⟨.none_bool _,.none_bool _,.none_bool _⟩
  |int j=>cases qB ry;obtain⟨t,rfl⟩:=rw';cases e;exact⟨.none_int _ _,.none_int _ _,.none_int _ _⟩
  |str j=>cases zG ry;obtain⟨t,rfl⟩:=rw';cases e;exact⟨.none_str _ _,.none_str _ _,.none_str _ _⟩
  |_=>cases e
 |bl i=>
  cases zB rx;cases ru;cases y with
  |non=>cases qj ry;cases rw';cases e;exact⟨.bool_none _,.bool_none _,.bool_none _⟩
  |bl j=>cases zB ry;cases rw';cases e;exact⟨.bool_bool _ _,.bool_bool _ _,.bool_bool _ _⟩
  |int j=>cases qB ry;obtain⟨t,rfl⟩:=rw';cases e;exact⟨.bool_int _ _ _,.bool_int _ _ _,.bool_int _ _ _⟩
  |str j=>cases zG ry;obtain⟨t,rfl⟩:=rw';cases e;exact⟨.bool_str _ _ _,.bool_str _ _ _,.bool_str _ _ _⟩
  |_=>cases e
 |int i=>
  cases qB rx;obtain⟨t,rfl⟩:=ru;cases y with
  |non=>cases qj ry;cases rw';cases e;exact⟨.int_none _ _,.int_none _ _,.int_none _ _⟩
  |bl j=>cases zB ry;cases rw';cases e;exact⟨.int_bool _ _ _,.int_bool _ _ _,.int_bool _ _ _⟩
  |int j=>cases qB ry;obtain⟨t,rfl⟩:=rw';cases e;exact⟨.int_int _ _ _ _,.int_int _ _ _ _,.int_int _ _ _ _⟩
  |str j=>cases zG ry;obtain⟨t,rfl⟩:=rw';cases e;exact⟨.int_str _ _ _ _,.int_str _ _ _ _,.int_str _ _ _ _⟩
  |_=>cases e
 |str i=>
  cases zG rx;obtain⟨t,rfl⟩:=ru;cases y with
  |non=>cases qj ry;cases rw';cases e;exact⟨.str_none _ _,.str_none _ _,.str_none _ _⟩
  |bl j=>cases zB ry;cases rw';cases e;exact⟨.str_bool _ _ _,.str_bool _ _ _,.str_bool _ _ _⟩
  |int j=>cases qB ry;obtain⟨t,rfl⟩:=rw';cases e;exact⟨.str_int _ _ _ _,.str_int _ _ _ _,.str_int _ _ _ _⟩
  |str j=>cases zG ry;obtain⟨t,rfl⟩:=rw';cases e;exact⟨.str_str _ _ _ _,.str_str _ _ _ _,.str_str _ _ _ _⟩
  |_=>cases e
 |_=>cases y<;>cases e
theorem F7{φ:List Addr}{x y w:V}{b:Bool}(e:eqF x y=some b)(rx:rv φ x w)(ry:rv φ y w):b=true:=by
 cases x with
 |non=>cases qj rx;cases y<;>first|exact False.elim ry|(cases e;rfl)|cases e
 |bl i=>cases zB rx;cases y<;>first|exact False.elim ry|(rename_i j;cases (show j=i from ry);cases e;simp)|cases e
 |int i=>cases qB rx;cases y<;>first|exact False.elim ry|(rename_i j;cases (show j=i from ry);cases e;simp)|cases e
 |str i=>cases zG rx;cases y<;>first|exact False.elim ry|(rename_i j;cases (show j=i from ry);cases e;simp)|cases e
 |_=>cases y<;>cases e
theorem Qu{f:V->V->Option Bool}:∀{xs ys:List V}{bs:List Bool},ZA f xs ys=some bs->bs.length=xs.length/\ys.length=xs.length/\∀(j:Nat) x y,xs[j]?=some x->ys[j]?=some y->∃b,bs[j]?=some b/\f x y=some b
 | [],[],bs,e=>by
  cases e;exact⟨rfl,rfl,λj x y h=>by simp at h⟩
 | [],_::_,_,e=>by cases e
 |_::_,[],_,e=>by cases e
 |x::xs,y::ys,bs,e=>by
  unfold ZA at e;split at e
  ·rename_i b bs' e1 e2;cases e;obtain⟨l1,l2,k⟩:=Qu e2;refine⟨by simp[l1],by simp[l2],λj u v h1 h2=>?_⟩;cases j with
   |zero=>simp at h1 h2;subst h1 h2;exact⟨b,rfl,e1⟩
   |succ j=>obtain⟨b',h3,h4⟩:=k j u v (by simpa using h1) (by simpa using h2);exact⟨b',by simpa using h3,h4⟩
  ·cases e
theorem JL(bs:List Bool):(List.range bs.length).all (λj=>bs.getD j true)=bs.all id:=by
 rw[wN];simp only[wL,wF,id];constructor
 ·intro h b hb;obtain⟨j,hj,rfl⟩:=wt.mp hb;have:=h j hj;rw[List.getD_eq_getElem?_getD,wA hj]at this;exact this
 ·intro h j hj;rw[List.getD_eq_getElem?_getD,wA hj];exact h _ (vH hj)
section
variable{X:Cx}{G φ:List Addr}{h:AH}{H:Hp}{pins:List (Addr×Obj)}{σ:L2.St}{s:Shared}
theorem G0(I:Inv X pins σ H s)(R:Rl X.K G φ h H):∀(n:Nat){x y w:V}{b:Bool},eqD h n x y=some b->rv φ x w->rv φ y w->b=true
 | 0,x,y,w,b,e,rx,ry=>F7 e rx ry
 |n+1,x,y,w,b,e,rx,ry=>by
  have all:∀{xs ys zs:List V}{bs:List Bool},rvs φ xs zs->rvs φ ys zs->ZA (eqD h n) xs ys=some bs->bs.all id=true:=λ{xs ys zs bs} r1 r2 e=>by
   obtain⟨l1,l2,k⟩:=Qu e;rw[wL];intro b hb;obtain⟨j,hj,rfl⟩:=wt.mp hb;have hx:j<xs.length:=by omega
   have hy:j<ys.length:=by omega
   obtain⟨b',hb',e'⟩:=k j _ _ (wA hx) (wA hy);rw[wA hj]at hb';cases hb';obtain⟨z,hz,q1⟩:=qK r1 (wA hx);obtain⟨z',hz',q2⟩:=qK r2 (wA hy);rw[hz]at hz';cases hz';exact G0 I R n e' q1 q2
  cases x with
  |ref a=>
   obtain⟨p,rfl,hp⟩:=qL rx;cases y with
   |ref c=>
    have hc:φ[c]?=some p:=ry;simp only[eqD]at e;split at e
    ·rename_i f1 xs f2 ys e1 e2;split at e
     ·cases e;rfl
     ·obtain⟨p1,z1,q1,s1,r1⟩:=R.lst (i:=a) (xs:=xs) (by unfold qQ;rw[e1]);obtain⟨p2,z2,q2,s2,r2⟩:=R.lst (i:=c) (xs:=ys) (by unfold qQ;rw[e2]);rw[hp]at q1;cases q1;rw[hc]at q2;cases q2;have:=I.list_inj s1 s2;subst this;split at e
      ·obtain⟨bs,e3,rfl⟩:=Option.map_eq_some_iff.mp e;exact all r1 r2 e3
      ·rename_i hne;exact absurd ((Paired.length r1).trans (Paired.length r2).symm) hne
    ·rename_i xs ys e1 e2;split at e
     ·cases e;rfl
     ·obtain⟨p1,z1,q1,s1,r1⟩:=R.tup (i:=a) (xs:=xs) (by unfold qU;rw[e1]);obtain⟨p2,z2,q2,s2,r2⟩:=R.tup (i:=c) (xs:=ys) (by unfold qU;rw[e2]);rw[hp]at q1;cases q1;rw[hc]at q2;cases q2;have:=I.tuple_inj s1 s2;subst this;split at e
      ·obtain⟨bs,e3,rfl⟩:=Option.map_eq_some_iff.mp e;exact all r1 r2 e3
      ·rename_i hne;exact absurd ((Paired.length r1).trans (Paired.length r2).symm) hne
    ·rename_i f1 xs ys e1 e2;obtain⟨p1,z1,q1,s1,r1⟩:=R.lst (i:=a) (xs:=xs) (by unfold qQ;rw[e1]);obtain⟨p2,z2,q2,s2,r2⟩:=R.tup (i:=c) (xs:=ys) (by unfold qU;rw[e2]);rw[hp]at q1;cases q1;rw[hc]at q2;cases q2;obtain⟨i1,_,t1,_⟩:=I.list s1;obtain⟨i2,_,t2,_⟩:=I.tuple s2;exact absurd rfl (ne_of_list_tuple t1.isList t2)
    ·rename_i xs f1 ys e1 e2;obtain⟨p1,z1,q1,s1,r1⟩:=R.tup (i:=a) (xs:=xs) (by unfold qU;rw[e1]);obtain⟨p2,z2,q2,s2,r2⟩:=R.lst (i:=c) (xs:=ys) (by unfold qQ;rw[e2]);rw[hp]at q1;cases q1;rw[hc]at q2;cases q2;obtain⟨i1,_,t1,_⟩:=I.tuple s1;obtain⟨i2,_,t2,_⟩:=I.list s2;exact absurd rfl (ne_of_list_tuple t2.isList t1)
    ·cases e
   |_=>exact False.elim ry
  |_=>
   cases y with
   |ref c=>
    obtain⟨p,rfl,hp⟩:=qL ry;exact False.elim rx
   |_=>exact F7 e rx ry
theorem U6(I:Inv X pins σ H s)(R:Rl X.K G φ h H):∀(n:Nat){A:Around}{x y xc yc:V}{u w:Value}{b:Bool},A.units+n<cLine->eqD h n x y=some b->rv φ x xc->rv φ y yc->RelV xc u->RelV yc w->Eq3 A s u w b
 | 0,A,x,y,xc,yc,u,w,b,hu,e,rx,ry,ru,rw'=>Jj e rx ry ru rw'
 |n+1,A,x,y,xc,yc,u,w,b,hu,e,rx,ry,ru,rw'=>by
  have hu0:A.units<cLine:=by omega
  have hu1:A.in1.units+n<cLine:=by show A.units+1+n<cLine;omega
  have item:∀{xs ys zs ts:List V}{us ws:List Value}{bs:List Bool},rvs φ xs zs->rvs φ ys ts->Vals zs us->Vals ts ws->ZA (eqD h n) xs ys=some bs->us.length=bs.length/\ws.length=bs.length/\
    ∀(j:Nat) (h1:j<us.toArray.size) (h2:j<ws.toArray.size),EqAt A.in1 s us.toArray[j] ws.toArray[j] (bs.getD j true):=λ{xs ys zs ts us ws bs} r1 r2 v1 v2 e=>by
   obtain⟨l1,l2,k⟩:=Qu e;have n1:=Paired.length r1;have n2:=Paired.length r2;have n3:=v1.length;have n4:=v2.length;refine⟨by omega,by omega,λj h1 h2=>?_⟩;have g1:j<us.length:=by simpa using h1
   have g2:j<ws.length:=by simpa using h2
   have hx:j<xs.length:=by omega
   have hy:j<ys.length:=by omega
   obtain⟨b',hb',e'⟩:=k j _ _ (wA hx) (wA hy);obtain⟨z,hz,q1⟩:=qK r1 (wA hx);obtain⟨t,ht,q2⟩:=qK r2 (wA hy);obtain⟨u',hu',q3⟩:=v1.get hz;obtain⟨w',hw',q4⟩:=v2.get ht;rw[wA g1]at hu';rw[wA g2]at hw';cases hu';cases hw';rw[List.getD_eq_getElem?_getD,hb'];have:=(U6 I R n (A:=A.in1) hu1 e' q1 q2 q3 q4).eq;simpa using this
  have refs:∀{a:Nat}{p:Addr}{v:V}{b:Bool},φ[a]?=some p->(if (items h a).isSome&&flat v then some false else none)=some b->b=false/\∃its,s.heap.IsList p its\/s.heap.IsTuple p its:=λ{a p v b} hp e=>by
   cases ea:h[a]? with
   |none=>rw[show items h a=none from(by unfold items;rw[ea])]at e;cases e
   |some o=>
    have hb:b=false:=by
     split at e
     ·cases e;rfl
     ·cases e
    refine⟨hb,?_⟩;cases o with
    |lst f xs=>
     obtain⟨p1,z1,q1,s1,r1⟩:=R.lst (i:=a) (xs:=xs) (by unfold qQ;rw[ea]);rw[hp]at q1;cases q1;obtain⟨i1,_,t1,_⟩:=I.list s1;exact⟨_,.inl t1.isList⟩
    |tup xs=>
     obtain⟨p1,z1,q1,s1,r1⟩:=R.tup (i:=a) (xs:=xs) (by unfold qU;rw[ea]);rw[hp]at q1;cases q1;obtain⟨i1,_,t1,_⟩:=I.tuple s1;exact⟨_,.inr t1⟩
    |ob ks=>rw[show items h a=none from(by unfold items;rw[ea])]at e;cases e
  cases x with
  |ref a=>
   obtain⟨p,rfl,hp⟩:=qL rx;cases ru;cases y with
   |ref c=>
    obtain⟨q,rfl,hq⟩:=qL ry;cases rw';have same:p=q->b=true:=λz=>by
     subst z;exact G0 I R (n+1) e rx (show rv φ (.ref c) (.ref p) from hq)
    simp only[eqD]at e;split at e
    ·rename_i f1 xs f2 ys e1 e2;obtain⟨p1,z1,q1,s1,r1⟩:=R.lst (i:=a) (xs:=xs) (by unfold qQ;rw[e1]);obtain⟨p2,z2,q2,s2,r2⟩:=R.lst (i:=c) (xs:=ys) (by unfold qQ;rw[e2]);rw[hp]at q1;cases q1;rw[hq]at q2;cases q2;obtain⟨i1,v1,t1,_⟩:=I.list s1;obtain⟨i2,v2,t2,_⟩:=I.list s2;split at e
     ·rename_i hac;subst hac;rw[hp]at hq;cases hq;cases e;have rc:=RcAt.lists (A:=A) (e:=λ_=>true) t1.isList t1.isList rfl hu0 λj _ _=>EqAt.same _;have ne:=RcNeAt.lists (A:=A) (e:=λ_=>true) t1.isList t1.isList rfl hu0 λj _ _=>EqAt.same _;have al:∀l:List Nat,(l.all λ_=>true)=true:=λl=>by simp
      rw[al]at rc ne;exact⟨.same _,rc,ne⟩
     ·split at e
      ·obtain⟨bs,e3,rfl⟩:=Option.map_eq_some_iff.mp e;obtain⟨m1,m2,he⟩:=item r1 r2 v1 v2 e3;have hsz:i1.toArray.size=i2.toArray.size:=by simp;omega
       have rc:=RcAt.lists (A:=A) (e:=λj=>bs.getD j true) t1.isList t2.isList hsz hu0 he;have ne:=RcNeAt.lists (A:=A) (e:=λj=>bs.getD j true) t1.isList t2.isList hsz hu0 he;have sz:i1.toArray.size=bs.length:=by simpa using m1
       rw[sz,JL]at rc ne;refine⟨?_,rc,ne⟩;by_cases hpq:p=q
       ·rw[same hpq];subst hpq;exact .same _
       ·exact .of_refs hpq rc
      ·rename_i hl;cases e;have n1:=Paired.length r1;have n2:=Paired.length r2;have n3:=v1.length;have n4:=v2.length;have hsz:(i1.toArray.size != i2.toArray.size)=true:=by simp;omega
       have rc:=RcAt.lists_lengths (A:=A) t1.isList t2.isList hsz hu0;have ne:=RcNeAt.lists_lengths (A:=A) t1.isList t2.isList hsz hu0;refine⟨?_,rc,ne⟩;by_cases hpq:p=q
       ·exact absurd (same hpq) (by decide)
       ·exact .of_refs hpq rc
    ·rename_i xs ys e1 e2;obtain⟨p1,z1,q1,s1,r1⟩:=R.tup (i:=a) (xs:=xs) (by unfold qU;rw[e1]);obtain⟨p2,z2,q2,s2,r2⟩:=R.tup (i:=c) (xs:=ys) (by unfold qU;rw[e2]);rw[hp]at q1;cases q1;rw[hq]at q2;cases q2;obtain⟨i1,v1,t1,_⟩:=I.tuple s1;obtain⟨i2,v2,t2,_⟩:=I.tuple s2;have t1':s.heap.IsTuple p i1.toArray:=t1;have t2':s.heap.IsTuple q i2.toArray:=t2;split at e
     ·rename_i hac;subst hac;rw[hp]at hq;cases hq;cases e;have rc:=RcAt.tuples (A:=A) (e:=λ_=>true) t1' t1' hu0 λj _ _=>EqAt.same _;have ne:=RcNeAt.tuples (A:=A) (e:=λ_=>true) t1' t1' hu0 λj _ _=>EqAt.same _;have al:∀l:List Nat,(l.all λ_=>true)=true:=λl=>by simp
      rw[al]at rc ne;simp only[vb,Bool.and_self]at rc ne;exact⟨.same _,rc,ne⟩
     ·split at e
      ·obtain⟨bs,e3,rfl⟩:=Option.map_eq_some_iff.mp e;obtain⟨m1,m2,he⟩:=item r1 r2 v1 v2 e3;have hsz:i1.toArray.size=i2.toArray.size:=by simp;omega
       have rc:=RcAt.tuples (A:=A) (e:=λj=>bs.getD j true) t1' t2' hu0 he;have ne:=RcNeAt.tuples (A:=A) (e:=λj=>bs.getD j true) t1' t2' hu0 he;have sz:i1.toArray.size=bs.length:=by simpa using m1
       have sz2:i2.toArray.size=bs.length:=by simpa using m2
       rw[sz,sz2,Nat.min_self,JL,vb,Bool.and_true]at rc ne;refine⟨?_,rc,ne⟩;by_cases hpq:p=q
       ·rw[same hpq];subst hpq;exact .same _
       ·exact .of_refs hpq rc
      ·rename_i hl;have n1:=Paired.length r1;have n2:=Paired.length r2;have n3:=v1.length;have n4:=v2.length;obtain⟨bs,e3,hb⟩:=Option.map_eq_some_iff.mp e;subst hb;have hsz:(i1.toArray.size==i2.toArray.size)=false:=by simp;omega
       obtain⟨m1,m2,he⟩:=item (qu ys.length r1) (qu xs.length r2) (v1.take ys.length) (v2.take xs.length) e3;have he':∀(j:Nat) (h1:j<i1.toArray.size) (h2:j<i2.toArray.size),EqAt A.in1 s i1.toArray[j] i2.toArray[j] (bs.getD j true):=λj h1 h2=>by
        have g1:j<i1.length:=by simpa using h1
        have g2:j<i2.length:=by simpa using h2
        have:=he j (by simp;omega) (by simp;omega);simpa using this
       have rc:=RcAt.tuples (A:=A) (e:=λj=>bs.getD j true) t1' t2' hu0 he';have ne:=RcNeAt.tuples (A:=A) (e:=λj=>bs.getD j true) t1' t2' hu0 he';rw[hsz,wb]at rc ne;refine⟨?_,rc,ne⟩;by_cases hpq:p=q
       ·exact absurd (same hpq) (by decide)
       ·exact .of_refs hpq rc
    ·rename_i f1 xs ys e1 e2;cases e;obtain⟨p1,z1,q1,s1,r1⟩:=R.lst (i:=a) (xs:=xs) (by unfold qQ;rw[e1]);obtain⟨p2,z2,q2,s2,r2⟩:=R.tup (i:=c) (xs:=ys) (by unfold qU;rw[e2]);rw[hp]at q1;cases q1;rw[hq]at q2;cases q2;obtain⟨i1,_,t1,_⟩:=I.list s1;obtain⟨i2,_,t2,_⟩:=I.tuple s2;exact⟨.list_tuple t1.isList t2 hu0,.list_tuple t1.isList t2 hu0,.list_tuple t1.isList t2 hu0⟩
    ·rename_i xs f1 ys e1 e2;cases e;obtain⟨p1,z1,q1,s1,r1⟩:=R.tup (i:=a) (xs:=xs) (by unfold qU;rw[e1]);obtain⟨p2,z2,q2,s2,r2⟩:=R.lst (i:=c) (xs:=ys) (by unfold qQ;rw[e2]);rw[hp]at q1;cases q1;rw[hq]at q2;cases q2;obtain⟨i1,_,t1,_⟩:=I.tuple s1;obtain⟨i2,_,t2,_⟩:=I.list s2;exact⟨.tuple_list t1 t2.isList hu0,.tuple_list t1 t2.isList hu0,.tuple_list t1 t2.isList hu0⟩
    ·cases e
   |non=>
    cases qj ry;cases rw';rcases refs hp (show (if (items h a).isSome&&flat V.non then some false else none)=some b from e) with⟨rfl,its,t|t⟩
    ·exact⟨.list_none t hu0,.list_none t hu0,.list_none t hu0⟩
    ·exact⟨.tuple_none t hu0,.tuple_none t hu0,.tuple_none t hu0⟩
   |bl j=>
    cases zB ry;cases rw';rcases refs hp (show (if (items h a).isSome&&flat (V.bl j) then some false else none)=some b from e) with⟨rfl,its,t|t⟩
    ·exact⟨.list_bool _ t hu0,.list_bool _ t hu0,.list_bool _ t hu0⟩
    ·exact⟨.tuple_bool _ t hu0,.tuple_bool _ t hu0,.tuple_bool _ t hu0⟩
   |int j=>
    cases qB ry;obtain⟨t',rfl⟩:=rw';rcases refs hp (show (if (items h a).isSome&&flat (V.int j) then some false else none)=some b from e) with⟨rfl,its,t|t⟩
    ·exact⟨.list_int _ _ t hu0,.list_int _ _ t hu0,.list_int _ _ t hu0⟩
    ·exact⟨.tuple_int _ _ t hu0,.tuple_int _ _ t hu0,.tuple_int _ _ t hu0⟩
   |str j=>
    cases zG ry;obtain⟨t',rfl⟩:=rw';rcases refs hp (show (if (items h a).isSome&&flat (V.str j) then some false else none)=some b from e) with⟨rfl,its,t|t⟩
    ·exact⟨.list_str _ _ t hu0,.list_str _ _ t hu0,.list_str _ _ t hu0⟩
    ·exact⟨.tuple_str _ _ t hu0,.tuple_str _ _ t hu0,.tuple_str _ _ t hu0⟩
   |_=>exact False.elim ry
  |non=>
   cases y with
   |ref c=>
    obtain⟨p,rfl,hp⟩:=qL ry;cases rw';cases qj rx;cases ru;rcases refs hp (show (if (items h c).isSome&&flat V.non then some false else none)=some b from(Bool.and_comm _ _) ▸ e) with⟨rfl,its,t|t⟩
    ·exact⟨.none_list t hu0,.none_list t hu0,.none_list t hu0⟩
    ·exact⟨.none_tuple t hu0,.none_tuple t hu0,.none_tuple t hu0⟩
   |_=>exact Jj e rx ry ru rw'
  |bl i=>
   cases y with
   |ref c=>
    obtain⟨p,rfl,hp⟩:=qL ry;cases rw';cases zB rx;cases ru;rcases refs hp (show (if (items h c).isSome&&flat (V.bl i) then some false else none)=some b from(Bool.and_comm _ _) ▸ e) with⟨rfl,its,t|t⟩
    ·exact⟨.bool_list _ t hu0,.bool_list _ t hu0,.bool_list _ t hu0⟩
    ·exact⟨.bool_tuple _ t hu0,.bool_tuple _ t hu0,.bool_tuple _ t hu0⟩
   |_=>exact Jj e rx ry ru rw'
  |int i=>
   cases y with
   |ref c=>
    obtain⟨p,rfl,hp⟩:=qL ry;cases rw';cases qB rx;obtain⟨t',rfl⟩:=ru;rcases refs hp (show (if (items h c).isSome&&flat (V.int i) then some false else none)=some b from(Bool.and_comm _ _) ▸ e) with⟨rfl,its,t|t⟩
    ·exact⟨.int_list _ _ t hu0,.int_list _ _ t hu0,.int_list _ _ t hu0⟩
    ·exact⟨.int_tuple _ _ t hu0,.int_tuple _ _ t hu0,.int_tuple _ _ t hu0⟩
   |_=>exact Jj e rx ry ru rw'
  |str i=>
   cases y with
   |ref c=>
    obtain⟨p,rfl,hp⟩:=qL ry;cases rw';cases zG rx;obtain⟨t',rfl⟩:=ru;rcases refs hp (show (if (items h c).isSome&&flat (V.str i) then some false else none)=some b from(Bool.and_comm _ _) ▸ e) with⟨rfl,its,t|t⟩
    ·exact⟨.str_list _ _ t hu0,.str_list _ _ t hu0,.str_list _ _ t hu0⟩
    ·exact⟨.str_tuple _ _ t hu0,.str_tuple _ _ t hu0,.str_tuple _ _ t hu0⟩
   |_=>exact Jj e rx ry ru rw'
  |_=>cases xc<;>exact False.elim rx
end
theorem B6{φ:List Addr}:∀{x w:V},flat x=true->rv φ x w->w=x
 | .non,_,_,h=>qj h
 | .bl _,_,_,h=>zB h
 | .int _,_,_,h=>qB h
 | .str _,_,_,h=>zG h
 | .ref _,_,f,_=>by cases f
 | .byt _,_,f,_=>by cases f
 | .flt _,_,f,_=>by cases f
 | .ty _,_,f,_=>by cases f
theorem jh{φ:List Addr}:∀{xs ws:List V},xs.all flat=true->rvs φ xs ws->ws=xs
 |_,_,_,.nil=>rfl
 |x::xs,w::ws,f,.cons r t=>by
  simp only[List.all_cons,Bool.and_eq_true]at f;rw[B6 f.1 r,jh f.2 t]
theorem E4:∀x:V,L2.flatV x=flat x:=by intro x;cases x<;>rfl
theorem W1(xs:List V):xs.all L2.flatV=xs.all flat:=by
 induction xs with
 |nil=>rfl
 |cons x xs ih=>rw[List.all_cons,List.all_cons,ih,E4]
section
variable{X:Cx}{G:List Addr}{F:Nat->List V->AH->RV}
noncomputable def opC:COp->CmpOp
 | .lt=>.Lt | .le=>.LtE | .gt=>.Gt | .ge=>.GtE | .eq=>.Eq | .ne=>.NotEq | .inn=>.In | .notin=>.NotIn | .is=>.Is | .isnot=>.IsNot
variable (X G) in
noncomputable def qCq(op:COp):R2:=λx y H Q=>∃φ h xa ya b,Rl X.K G φ h H/\rv φ xa x/\rv φ ya y/\W9 op xa ya h=some b/\Q (.bl b) H
theorem C8{φ:List Addr}{x y:V}(r:rv φ x y):decide (x=V.non)=decide (y=V.non):=by
 by_cases hx:x=V.non
 ·subst hx;cases qj r;rfl
 ·have hy:y≠V.non:=λhy=>by subst hy;cases x<;>first|exact hx rfl|exact False.elim r
  rw[vW hx,vW hy]
theorem A4(kvs:List (Int×V))(i:Int):((kvs.map kk).any λkv=>decide (kv.1=Sum.inl i))=qA1 kvs i:=by
 unfold qA1;rw[List.any_map];congr 1
 funext p
 show decide ((Sum.inl p.1:L2.Key)=Sum.inl i)=_;rw[wN];simp
theorem v8(kvs:List (Int×V))(i:Int)(v:V):L2.putK (kvs.map kk) (Sum.inl i:L2.Key) v=(qDE kvs i v).map kk:=by
 unfold L2.putK qDE;rw[A4];split
 ·rw[wa,wa];congr 1
  funext p
  show (if (Sum.inl p.1:L2.Key)=Sum.inl i then ((Sum.inl p.1:L2.Key),v) else kk p)=kk (if p.1=i then (p.1,v) else p);by_cases h:p.1=i
  ·rw[if_pos (by rw[h]),if_pos h];rfl
  ·rw[if_neg (λz=>h (Sum.inl.inj z)),if_neg h]
 ·rw[wT];rfl
theorem ju(hu:X.A.units+8<cLine):∀op,OpR X (compareOp (opC op)) (qCq X G op):=by
 intro op pins s σ H x y v u Q I rx ry ⟨φ,h,xa,ya,b,R,r1,r2,e,q⟩;have hin:∀(neg:Bool){p:Nat}{ya':V}(e:(match items h p with|some xs=>if flat xa&&xs.all flat then some (if neg then !(xs.any λy=>L2.eqV y xa) else xs.any λy=>L2.eqV y xa) else none|none=>none)=some b),rv φ (.ref p) y->L2.rIn X.K neg x y H Q:=by
  intro neg p ya' e r2;split at e
  ·rename_i xs ex;split at e
   ·rename_i hf;simp only[Bool.and_eq_true]at hf;obtain⟨a,ys,ha,hs,rs⟩:=R.its ex;obtain⟨a',rfl,ha'⟩:=qL r2;rw[ha]at ha';cases ha';have e1:=B6 hf.1 r1;have e2:=jh hf.2 rs;subst e1 e2;refine⟨a,ys,rfl,hs,by rw[E4];exact hf.1,by rw[W1];exact hf.2,?_⟩;cases e;exact q
   ·cases e
  ·cases e
 cases op with
 |lt=>
  replace e:=QQ e;obtain⟨i,j,rfl,rfl,rfl⟩:=e;cases qB r1;cases qB r2;exact L2.op_lt pins s σ H _ _ v u Q I rx ry ⟨_,_,rfl,rfl,q⟩
 |le=>
  replace e:=QQ e;obtain⟨i,j,rfl,rfl,rfl⟩:=e;cases qB r1;cases qB r2;exact L2.op_le pins s σ H _ _ v u Q I rx ry ⟨_,_,rfl,rfl,q⟩
 |gt=>
  replace e:=QQ e;obtain⟨i,j,rfl,rfl,rfl⟩:=e;cases qB r1;cases qB r2;exact L2.op_gt pins s σ H _ _ v u Q I rx ry ⟨_,_,rfl,rfl,q⟩
 |ge=>
  replace e:=QQ e;obtain⟨i,j,rfl,rfl,rfl⟩:=e;cases qB r1;cases qB r2;exact L2.op_ge pins s σ H _ _ v u Q I rx ry ⟨_,_,rfl,rfl,q⟩
 |eq=>exact(U6 I R 4 (by omega) (show eqD h 4 xa ya=some b from e) r1 r2 rx ry).rc _ _ _ _ ⟨.bl b,H,I,rfl,q⟩
 |ne=>
  have e':(eqD h 4 xa ya).map (!·)=some b:=e;obtain⟨c,e1,rfl⟩:=Option.map_eq_some_iff.mp e';exact(U6 I R 4 (by omega) e1 r1 r2 rx ry).ne _ _ _ _ ⟨.bl (!c),H,I,rfl,q⟩
 |inn=>
  replace e:=G3 e;obtain⟨p,rfl,e⟩:=e;cases ei:items h p with
  |some xs=>exact L2.op_in_seq pins s σ H x y v u Q I rx ry (hin false (ya':=.non) (by rw[ei]at e ⊢;exact e) r2)
  |none=>
   rw[ei]at e;dsimp only at e;split at e
   ·rename_i kvs ed;split at e
    ·rename_i i;cases e;obtain⟨a,ea,_,hH⟩:=R.dct ed;obtain⟨a',rfl,ha'⟩:=qL r2;rw[ea]at ha';cases ha';cases qB r1;cases ry;refine L2.d_in (by omega) I (L2.DGet.k (k:=.inl i) hH) rx λs' I'=>⟨.bl (L2.valV (kvs.map kk) (Sum.inl i)).isSome,H,I',rfl,?_⟩
     rw[<-L2.valV_any,A4];exact q
    ·cases e
   ·cases e
 |notin=>
  replace e:=G3 e;obtain⟨p,rfl,e⟩:=e;cases ei:items h p with
  |some xs=>exact L2.op_notIn_seq pins s σ H x y v u Q I rx ry (hin true (ya':=.non) (by rw[ei]at e ⊢;exact e) r2)
  |none=>
   rw[ei]at e;dsimp only at e;split at e
   ·rename_i kvs ed;split at e
    ·rename_i i;cases e;obtain⟨a,ea,_,hH⟩:=R.dct ed;obtain⟨a',rfl,ha'⟩:=qL r2;rw[ea]at ha';cases ha';cases qB r1;cases ry;refine L2.d_notIn (by omega) I (L2.DGet.k (k:=.inl i) hH) rx λs' I'=>⟨.bl (!(L2.valV (kvs.map kk) (Sum.inl i)).isSome),H,I',rfl,?_⟩
     rw[<-L2.valV_any,A4];exact q
    ·cases e
   ·cases e
 |is=>
  rcases O2 (show isC xa ya id=some b from e) with⟨rfl,rfl⟩|⟨c,d,rfl,rfl,rfl⟩
  ·cases qj r2;rw[C8 r1]at q;exact L2.op_isN pins s σ H x _ v u Q I rx ry ⟨rfl,q⟩
  ·cases zB r1;cases zB r2;cases (show v=Value.bool c from rx);cases (show u=Value.bool d from ry);exact PySem.wpAny_is_plain rfl ⟨.bl (c==d),H,I,(by cases c<;>cases d<;>rfl),q⟩
 |isnot=>
  rcases O2 (show isC xa ya (!·)=some b from e) with⟨rfl,rfl⟩|⟨c,d,rfl,rfl,rfl⟩
  ·cases qj r2;rw[C8 r1]at q;exact L2.op_notN pins s σ H x _ v u Q I rx ry ⟨rfl,q⟩
  ·cases zB r1;cases zB r2;cases (show v=Value.bool c from rx);cases (show u=Value.bool d from ry);exact PySem.wpAny_isNot_plain rfl ⟨.bl (!(c==d)),H,I,(by cases c<;>cases d<;>rfl),q⟩
theorem Zi:∀{bs:List Bool}{us:List Value},Vals (bs.map V.bl) us->LSm.BoolsAre us bs
 | [],_,.nil=>.nil
 |b::bs,u::us,.cons r t=>by
  cases (show u=Value.bool b from r);exact .cons b (Zi t)
theorem K3{A:Around}{E:Value->Shared->Prop}{prog:Program}{w:World}{s:Shared}{l:Addr}{vs:List Value}{bs:List Bool}{Q:Value->Shared->Prop}(hh:A.handled=none)(hl:s.heap.IsList l vs.toArray)(hb:LSm.BoolsAre vs bs)
  (h:∀h' tk,(∀b x,s.heap.get? b=some x->h'.get? b=some x)->Q (.bool (bs.all id)) { s with heap:=h',toks:=tk }):wpAny (model prog w) A (call (.builtin "all") [.ref l]) Q E s:=by
 have hlt:l<s.heap.objs.size:=by obtain⟨_,e,_⟩:=hl;exact Heap.lt_size e
 refine call_all_walk (wpAny_pyIter_list hl ?_);refine⟨s.heap.objs.size,[s.heap.objs.size,l],[s.heap.objs.size],vs.toArray.size,_,_,λi=>(bs[i]?).getD true,rfl,Walks.list (A:=A.in1) hh _ l (wJ hlt) vs.toArray,
  ⟨⟨_,Heap.get?_push_size _ rfl,rfl,rfl⟩,hl.push _⟩,λi v s' Q' E' hP hQ=>?_,λh' tk hk=>?_⟩
 ·obtain⟨b,e,rfl⟩:=hb.get i v (by simpa using hP);simp only[e,vB]at hQ;exact va hQ
 ·have e:((List.range vs.toArray.size).all λi=>(bs[i]?).getD true)=bs.all id:=by
   rw[wC,hb.length];exact LSm.range_all bs
  rw[e];exact h h' tk (LSm.kept_iter hk)
theorem K5{A:Around}{E:Value->Shared->Prop}{prog:Program}{w:World}{s:Shared}{l:Addr}{vs:List Value}{bs:List Bool}{Q:Value->Shared->Prop}(hh:A.handled=none)(hl:s.heap.IsList l vs.toArray)(hb:LSm.BoolsAre vs bs)
  (h:∀h' tk,(∀b x,s.heap.get? b=some x->h'.get? b=some x)->Q (.bool (bs.any id)) { s with heap:=h',toks:=tk }):wpAny (model prog w) A (call (.builtin "any") [.ref l]) Q E s:=by
 have hlt:l<s.heap.objs.size:=by obtain⟨_,e,_⟩:=hl;exact Heap.lt_size e
 refine call_any_walk (wpAny_pyIter_list hl ?_);refine⟨s.heap.objs.size,[s.heap.objs.size,l],[s.heap.objs.size],vs.toArray.size,_,_,λi=>(bs[i]?).getD false,rfl,Walks.list (A:=A.in1) hh _ l (wJ hlt) vs.toArray,
  ⟨⟨_,Heap.get?_push_size _ rfl,rfl,rfl⟩,hl.push _⟩,λi v s' Q' E' hP hQ=>?_,λh' tk hk=>?_⟩
 ·obtain⟨b,e,rfl⟩:=hb.get i v (by simpa using hP);simp only[e,vB]at hQ;exact va hQ
 ·have e:((List.range vs.toArray.size).any λi=>(bs[i]?).getD false)=bs.any id:=by
   rw[wC,hb.length];exact LSm.range_any bs
  rw[e];exact h h' tk (LSm.kept_iter hk)
theorem Jt:∀{xs:List V}{is:List Int}{us:List Value},zp xs=some is->Vals xs us->us.length=is.length/\∀i v,us[i]?=some v->NumOf (is.getD i 0) v
 | [],is,_,e,.nil=>by cases e;exact⟨rfl,λi v e=>by simp at e⟩
 |x::r,is,u::us,e,.cons a t=>by
  unfold zp at e;split at e
  ·rename_i e';cases e'
  ·rename_i e';cases e';obtain⟨js,e1,rfl⟩:=Option.map_eq_some_iff.mp e;obtain⟨l,g⟩:=Jt e1 t;refine⟨by simp[l],λi v q=>?_⟩;cases i with
   |zero=>
    cases q;obtain⟨w,rfl⟩:=a;exact .inl ⟨w,rfl⟩
   |succ i=>exact g i v q
  ·rename_i e';cases e';obtain⟨js,e1,rfl⟩:=Option.map_eq_some_iff.mp e;obtain⟨l,g⟩:=Jt e1 t;refine⟨by simp[l],λi v q=>?_⟩;cases i with
   |zero=>
    cases q;exact .inr ⟨_,a,rfl⟩
   |succ i=>exact g i v q
  ·cases e
theorem Qm:∀{xs:List V}{is:List Int},zp xs=some is->xs.all flat=true
 | [],_,_=>rfl
 |x::r,is,e=>by
  unfold zp at e;split at e
  ·rename_i e';cases e'
  ·rename_i e';cases e';obtain⟨js,e1,rfl⟩:=Option.map_eq_some_iff.mp e;rw[List.all_cons,Qm e1];rfl
  ·rename_i e';cases e';obtain⟨js,e1,rfl⟩:=Option.map_eq_some_iff.mp e;rw[List.all_cons,Qm e1];rfl
  ·cases e
theorem L8{A:Around}{E:Value->Shared->Prop}{prog:Program}{w:World}{s:Shared}{l:Addr}{vs:List Value}{xs:List V}{is:List Int}{Q:Value->Shared->Prop}(hh:A.handled=none)(hl:s.heap.IsList l vs.toArray)(ei:zp xs=some is)(hb:Vals xs vs)
  (h:∀h' tk t',(∀b x,s.heap.get? b=some x->h'.get? b=some x)->Q (.int is.sum t') { s with heap:=h',toks:=tk }):wpAny (model prog w) A (call (.builtin "sum") [.ref l]) Q E s:=by
 have hlt:l<s.heap.objs.size:=by obtain⟨_,e,_⟩:=hl;exact Heap.lt_size e
 obtain⟨hlen,hn⟩:=Jt ei hb;refine call_sum_walkAnyB (wpAny_pyIter_list hl ?_);refine⟨s.heap.objs.size,_,_,_,_,_,_,λi=>is.getD i 0,rfl,(Walks.list (prog:=prog) (w:=w) (A:=A.in1) hh s.heap.objs.size l (wJ hlt) vs.toArray).toS,
  ⟨⟨_,Heap.get?_push_size _ rfl,rfl,rfl⟩,hl.push _⟩,λb hb=>?_,λi v hP=>hn i v (by simpa using hP),λs' t' hm=>?_⟩
 ·rcases List.mem_cons.mp hb with rfl|hb
  ·exact Heap.lt_size (Heap.get?_push_size _ rfl)
  ·obtain rfl:=wQ.mp hb;obtain⟨_,e,_⟩:=hl;exact Heap.lt_size (Heap.get?_push_of_some _ e)
 ·obtain⟨h',g',d',tk',os'⟩:=s';have e1:g'=s.gens:=hm.gens;have e2:d'=s.drawn:=hm.drawn;have e3:os'=s.os:=hm.os;subst e1 e2 e3;have e:=preSum_getD is vs.toArray.size;rw[wC,hlen,List.take_of_length_le (Nat.le_refl _),<-hlen,<-wC]at e;rw[e];exact h h' tk' t' λb o e=>hm.heap b o (λhb=>absurd (Heap.lt_size e) ((wQ.mp hb) ▸ Nat.lt_irrefl _)) (Heap.get?_push_of_some _ e)
theorem ZI:∀{xs:List V}{is:List Int},jH xs=some is->xs=is.map V.int
 | [],is,e=>by cases e;rfl
 | .int i::r,is,e=>by
  simp only[jH]at e;obtain⟨js,e1,rfl⟩:=Option.map_eq_some_iff.mp e;rw[ZI e1];rfl
 | .non::_,_,e=>by cases e
 | .bl _::_,_,e=>by cases e
 | .str _::_,_,e=>by cases e
 | .ref _::_,_,e=>by cases e
 | .byt _::_,_,e=>by cases e
 | .flt _::_,_,e=>by cases e
 | .ty _::_,_,e=>by cases e
theorem jT:∀{xs:List V}{is:List Bool},jM xs=some is->xs=is.map V.bl
 | [],is,e=>by cases e;rfl
 | .bl i::r,is,e=>by
  simp only[jM]at e;obtain⟨js,e1,rfl⟩:=Option.map_eq_some_iff.mp e;rw[jT e1];rfl
 | .non::_,_,e=>by cases e
 | .int _::_,_,e=>by cases e
 | .str _::_,_,e=>by cases e
 | .ref _::_,_,e=>by cases e
 | .byt _::_,_,e=>by cases e
 | .flt _::_,_,e=>by cases e
 | .ty _::_,_,e=>by cases e
theorem jd:∀{us:List Value}{ns:List Int},IntsAre us ns->Vals (ns.map V.int) us
 |_,_,.nil=>.nil
 |_,_,.cons n t r=>.cons ⟨_,rfl⟩ (jd r)
theorem T8(is:List Int):(is.map V.int).all flat=true:=by simp[flat]
theorem ZS(is:List Bool):(is.map V.bl).all flat=true:=by simp[flat]
noncomputable def fnB:BF->Value
 | .len=>.builtin "len" | .sum=>.builtin "sum" | .all=>.builtin "all" | .any=>.builtin "any" | .max=>.builtin "max" | .min=>.builtin "min"
 | .list=>.type "list" | .int=>.type "int" | .repr=>.builtin "repr" | .bits=>.builtin "int.bit_length"
variable (X G) in
def qDH(f:BF):List V->Hp->VK->Prop:=λxs H Q=>∃φ h ws v h',Rl X.K G φ h H/\rvs φ ws xs/\qCn f ws h=.ok (v,h')/\∀φ' H' w,Ext φ φ'->Rl X.K G φ' h' H'->rv φ' v w->Q w H'
theorem T6{φ:List Addr}{hp:Heap}{x v:V}{u:Value}{d:PyData}(e:j0 x=some d)(r:rv φ x v)(ru:RelV v u):(∃as,Reads hp u d as)/\d.hasDict=false/\d.depth<=0:=by
 unfold j0 at e;split at e
 ·cases e;cases qj r;cases (show u=Value.none from ru);exact⟨⟨_,.none⟩,rfl,Nat.le_refl _⟩
 ·cases e;cases zB r;cases (show u=Value.bool _ from ru);exact⟨⟨_,.bool _⟩,rfl,Nat.le_refl _⟩
 ·cases e;cases qB r;obtain⟨t,rfl⟩:=ru;exact⟨⟨_,.int _ _⟩,rfl,Nat.le_refl _⟩
 ·cases e;cases zG r;obtain⟨t,rfl⟩:=ru;exact⟨⟨_,.str _ _⟩,rfl,Nat.le_refl _⟩
 ·cases e
def DR(P:Program)(W:World)(h:Heap)(n:Nat)(u:Value)(d:PyData):Prop:=(∃as,Reads h u d as)/\d.depth<=n/\(d.showable=true->d.shown.length<=sizeLine->∃bs,ReadAtMost h d.depth bs/\ReprK P W bs h d.depth u d.shown)
def DRs(P:Program)(W:World)(h:Heap)(n:Nat)(us:List Value)(ds:List PyData):Prop:=(∃as,ReadsAll h us ds as)/\PyData.depthAll ds<=n/\(PyData.showableAll ds=true->(∀t∈PyData.shownAll ds,t.length<=sizeLine)->∃bs,ReadAtMost h (PyData.depthAll ds) bs/\ReprAllK P W bs h (PyData.depthAll ds) us (PyData.shownAll ds))
theorem DR.flat{P:Program}{W:World}{hp:Heap}{n:Nat}{u:Value}{d:PyData}(q:(∃as,Reads hp u d as)/\d.hasDict=false/\d.depth<=0):DR P W hp n u d:=by
 obtain⟨⟨as,q1⟩,q2,q3⟩:=q;exact⟨⟨as,q1⟩,by omega,λhs hz=>ReprK.of_reads q1 hs (λz=>by rw[q2]at z;cases z) hz⟩
theorem QW{P:Program}{W:World}{φ:List Addr}{hp:Heap}{n:Nat}{f:V->Option PyData}(hf:∀x v u d,f x=some d->rv φ x v->RelV v u->DR P W hp n u d):∀(xs ys:List V) (us:List Value) (ds:List PyData),J8 f xs=some ds->rvs φ xs ys->Vals ys us->DRs P W hp n us ds
 | [],ys,us,ds,e,r,ru=>by
  cases e;cases r;cases ru;exact⟨⟨_,.nil⟩,Nat.zero_le _,λ_ _=>⟨[],(λ_ h=>nomatch h),by simp only[PyData.shownAll];exact .nil⟩⟩
 |x::xs,ys,us,ds,e,r,ru=>by
  unfold J8 at e;obtain⟨d,e1,e⟩:=Option.bind_eq_some_iff.mp e;obtain⟨ds',e2,rfl⟩:=Option.map_eq_some_iff.mp e;cases r with
  |cons r1 r2=>
   cases ru with
   |cons u1 u2=>
    obtain⟨⟨as,q1⟩,q3,q2⟩:=hf _ _ _ _ e1 r1 u1;obtain⟨⟨bs,p1⟩,p2,p3⟩:=QW hf xs _ _ ds' e2 r2 u2;refine⟨⟨_,.cons q1 p1⟩,Nat.max_le.mpr ⟨q3,p2⟩,λhs hz=>?_⟩;have hs':d.showable=true/\PyData.showableAll ds'=true:=by simpa [PyData.showableAll] using hs
    obtain⟨b1,hb1,k1⟩:=q2 hs'.1 (hz _ (by simp only[PyData.shownAll];exact List.mem_cons_self ..));obtain⟨b2,hb2,k2⟩:=p3 hs'.2 (λt ht=>hz t (by simp only[PyData.shownAll];exact List.mem_cons_of_mem _ ht));refine⟨b1++b2,?_,?_⟩
    ·intro b hm;simp only[PyData.depthAll];rcases wD.mp hm with hm|hm
     ·obtain⟨d',as',r',hd'⟩:=hb1 b hm;exact⟨d',as',r',Nat.le_trans hd' (Nat.le_max_left _ _)⟩
     ·obtain⟨d',as',r',hd'⟩:=hb2 b hm;exact⟨d',as',r',Nat.le_trans hd' (Nat.le_max_right _ _)⟩
    ·simp only[PyData.depthAll,PyData.shownAll];exact .cons ((k1.more λb hb=>wE _ hb).level_le (Nat.le_max_left _ _)) (k2.more_le (λb hb=>wG _ hb) (Nat.le_max_right _ _))
theorem DRs.list{P:Program}{W:World}{hp:Heap}{n m:Nat}{p:Addr}{o:Obj}{its:List Value}{ds:List PyData}(q:DRs P W hp n its ds)(ho:hp.get? p=some o)(hc:o.cls=.type "list")(hd:o.data=.seq its.toArray m)(hs:PyData.showableAll ds=true)(hz:(listText (PyData.shownAll ds)).length<=sizeLine):
  ∃bs,ReadAtMost hp (PyData.depthAll ds) bs/\ReprAllK P W bs hp (PyData.depthAll ds) its (PyData.shownAll ds)/\p∉bs:=by
 obtain⟨⟨as,q1⟩,q2,q3⟩:=q;obtain⟨bs,hb,hk⟩:=q3 hs (λt ht=>Nat.le_trans (listText_mem_le ht) hz);exact⟨bs,hb,hk,not_mem_of_deeper (Reads.list ho hc hd (by simpa using q1)) (by simp only[PyData.depth];omega) hb⟩
theorem DRs.tuple{P:Program}{W:World}{hp:Heap}{n m:Nat}{p:Addr}{o:Obj}{its:List Value}{ds:List PyData}(q:DRs P W hp n its ds)(ho:hp.get? p=some o)(hc:o.cls=.type "tuple")(hd:o.data=.seq its.toArray m)(hs:PyData.showableAll ds=true)(hz:(tupleText (PyData.shownAll ds)).length<=sizeLine):
  ∃bs,ReadAtMost hp (PyData.depthAll ds) bs/\ReprAllK P W bs hp (PyData.depthAll ds) its (PyData.shownAll ds)/\p∉bs:=by
 obtain⟨⟨as,q1⟩,q2,q3⟩:=q;obtain⟨bs,hb,hk⟩:=q3 hs (λt ht=>Nat.le_trans (tupleText_mem_le ht) hz);exact⟨bs,hb,hk,not_mem_of_deeper (Reads.tuple ho hc hd (by simpa using q1)) (by simp only[PyData.depth];omega) hb⟩
theorem k6{pins:List (Addr×Obj)}{s:Shared}{σ:L2.St}{H:Hp}{φ:List Addr}{h:AH}(I:Inv X pins σ H s)(R:Rl X.K G φ h H){a:Nat}{p:Addr}(ey:h[a]?=some (.ob (.dct [])))(hp:φ[a]?=some p):∃as,Reads s.heap (.ref p) (.dict []) as/\sysModules∉as:=by
 obtain⟨p',hp',hs⟩:=R.at ey;rw[hp]at hp';cases hp';obtain⟨_,hne,vs,hkv,o,es,ep,h1,h2,h3,h4,h5,h6⟩:=(show L2.ObjOk X.prog X.w H s.heap p (.dK []) from I.hok p _ hs)
 cases hkv;have he:es.toList=[]:=by cases hh:es.toList with|nil=>rfl|cons a b=>rw[hh]at h5;cases h5
 refine⟨_,.dict (as:=[]) (bs:=[]) h1 h2.1 h3 (by rw[he];exact .nil) (by rw[he];exact .nil),λz=>?_⟩;simp at z;rw[<-z]at hne;simp at hne
theorem F3{pins:List (Addr×Obj)}{s:Shared}{σ:L2.St}{H:Hp}{φ:List Addr}{h:AH}(I:Inv X pins σ H s)(R:Rl X.K G φ h H):∀(n:Nat) (x v:V) (u:Value) (d:PyData),dat h n x=some d->rv φ x v->RelV v u->DR X.prog X.w s.heap n u d
 | 0,x,v,u,d,e,r,ru=>.flat (T6 e r ru)
 |n+1,x,v,u,d,e,r,ru=>by
  unfold dat at e;split at e
  ·rename_i a;obtain⟨p,rfl,hp⟩:=qL r;cases (show u=Value.ref p from ru);split at e
   ·rename_i f xs ey;obtain⟨ds,e1,rfl⟩:=Option.map_eq_some_iff.mp e;obtain⟨p',zs,hp',hs,rs⟩:=R.lst (show qQ h a=some xs by unfold qQ;rw[ey]);rw[hp]at hp';cases hp';obtain⟨its,rv',pl,_⟩:=I.list hs;obtain⟨o,ho,hc,m,hd⟩:=pl.isList;have q:=QW (F3 I R n) xs zs its ds e1 rs rv';obtain⟨⟨as,q1⟩,q2,_⟩:=id q;refine⟨⟨_,.list ho hc hd (by simpa using q1)⟩,vG q2,λhs' hz=>?_⟩;have hz':(listText (PyData.shownAll ds)).length<=sizeLine:=by simpa only[PyData.shown] using hz
    obtain⟨bs,hb,hk,hna⟩:=q.list ho hc hd (by simpa [PyData.showable] using hs') hz';refine⟨p::bs,ReadAtMost.cons (Reads.list ho hc hd (by simpa using q1)) (by simp only[PyData.depth];omega) hb,?_⟩;simp only[PyData.depth,PyData.shown];cases its with
    |nil=>
     cases q1;simp only[PyData.shownAll,listText_nil];exact ReprK.listEmpty ho hc hd
    |cons y l=>exact ReprK.list ho hc hd hna (by simpa using hk.length_eq) (λi y e=>hk.item i y (by simpa using e))
   ·rename_i xs ey;obtain⟨ds,e1,rfl⟩:=Option.map_eq_some_iff.mp e;obtain⟨p',zs,hp',hs,rs⟩:=R.tup (show qU h a=some xs by unfold qU;rw[ey]);rw[hp]at hp';cases hp';obtain⟨its,rv',pl,_⟩:=I.tuple hs;obtain⟨o,ho,hc,m,hd⟩:=pl;have q:=QW (F3 I R n) xs zs its ds e1 rs rv';obtain⟨⟨as,q1⟩,q2,_⟩:=id q;refine⟨⟨_,.tuple ho hc hd (by simpa using q1)⟩,vG q2,λhs' hz=>?_⟩;have hz':(tupleText (PyData.shownAll ds)).length<=sizeLine:=by simpa only[PyData.shown] using hz
    obtain⟨bs,hb,hk,hna⟩:=q.tuple ho hc hd (by simpa [PyData.showable] using hs') hz';refine⟨p::bs,ReadAtMost.cons (Reads.tuple ho hc hd (by simpa using q1)) (by simp only[PyData.depth];omega) hb,?_⟩;simp only[PyData.depth,PyData.shown];exact ReprK.tuple ho hc hd hna (by simpa using hk)
   ·rename_i ey;cases e;obtain⟨as,q1,q2⟩:=k6 I R ey hp;exact⟨⟨as,q1⟩,vG (Nat.zero_le _),λhs hz=>ReprK.of_reads q1 hs (λ_=>q2) hz⟩
   ·cases e
  ·exact .flat (T6 e r ru)
theorem Jb(hc:X.calm=true)(hu:X.A.units+8<cLine)(hgd:X.A.guards=some []):∀f,zD X (fnB f) (qDH X G f):=by
 intro f pins s σ H xs us Q I r ⟨φ,h,ws,v,h',R,rw',e,k⟩;cases f with
 |len=>
  replace e:=zl e;obtain⟨x0,rfl,e⟩:=e;replace e:=jA e;obtain⟨a,rfl,e⟩:=e;split at e
  ·rename_i ys ey;cases e;cases rw' with
   |cons r1 t=>
    cases t;obtain⟨p,rfl,hp⟩:=qL r1;obtain⟨p',zs,hp',hs,rs⟩:=R.its ey;rw[hp]at hp';cases hp';refine L2.call_len_seq pins s σ H _ us Q I r ⟨p,zs,rfl,hs,?_⟩;rw[<-Paired.length rs];exact k φ H _ (.refl _) R rfl
  ·cases e
 |sum=>
  replace e:=zl e;obtain⟨x0,rfl,e⟩:=e;replace e:=jA e;obtain⟨a,rfl,e⟩:=e;split at e
  ·rename_i ys ey;split at e
   ·rename_i is ei;cases e;cases rw' with
    |cons r1 t=>
     cases t;obtain⟨p,rfl,hp⟩:=qL r1;obtain⟨p',zs,hp',hs,rs⟩:=R.lst ey;rw[hp]at hp';cases hp';have hz:=jh (Qm ei) rs;subst hz;obtain⟨its,rv',pl,_⟩:=I.list hs;obtain⟨u,rfl,ru⟩:=L2.vals1 r;cases ru;exact L8 (I.ok.hd hc) pl.isList ei rv' λh1 tk t' hk=>⟨.int is.sum,H,I.kept hk,⟨_,rfl⟩,k φ H _ (.refl _) R rfl⟩
   ·cases e
  ·cases e
 |all=>
  replace e:=zl e;obtain⟨x0,rfl,e⟩:=e;replace e:=jA e;obtain⟨a,rfl,e⟩:=e;split at e
  ·rename_i ys ey;split at e
   ·rename_i is ei;cases e;cases rw' with
    |cons r1 t=>
     cases t;obtain⟨p,rfl,hp⟩:=qL r1;obtain⟨p',zs,hp',hs,rs⟩:=R.lst ey;rw[hp]at hp';cases hp';have hm:=jT ei;subst hm;have hz:=jh (ZS is) rs;subst hz;obtain⟨its,rv',pl,_⟩:=I.list hs;obtain⟨u,rfl,ru⟩:=L2.vals1 r;cases ru;exact K3 (I.ok.hd hc) pl.isList (Zi rv') λh1 tk hk=>⟨.bl (is.all id),H,I.kept hk,rfl,k φ H _ (.refl _) R rfl⟩
   ·cases e
  ·cases e
 |any=>
  replace e:=zl e;obtain⟨x0,rfl,e⟩:=e;replace e:=jA e;obtain⟨a,rfl,e⟩:=e;split at e
  ·rename_i ys ey;split at e
   ·rename_i is ei;cases e;cases rw' with
    |cons r1 t=>
     cases t;obtain⟨p,rfl,hp⟩:=qL r1;obtain⟨p',zs,hp',hs,rs⟩:=R.lst ey;rw[hp]at hp';cases hp';have hm:=jT ei;subst hm;have hz:=jh (ZS is) rs;subst hz;obtain⟨its,rv',pl,_⟩:=I.list hs;obtain⟨u,rfl,ru⟩:=L2.vals1 r;cases ru;exact K5 (I.ok.hd hc) pl.isList (Zi rv') λh1 tk hk=>⟨.bl (is.any id),H,I.kept hk,rfl,k φ H _ (.refl _) R rfl⟩
   ·cases e
  ·cases e
 |max=>
  replace e:=two_inv e;obtain⟨x0,y0,rfl,e⟩:=e;replace e:=zI e;obtain⟨i,j,rfl,rfl,e⟩:=e;cases e;cases rw' with
  |cons r1 t=>
   cases t with
   |cons r2 t=>
    cases t;cases qB r1;cases qB r2;exact L2.call_max2 hc pins s σ H _ us Q I r ⟨_,_,rfl,k φ H _ (.refl _) R rfl⟩
 |min=>
  replace e:=two_inv e;obtain⟨x0,y0,rfl,e⟩:=e;replace e:=zI e;obtain⟨i,j,rfl,rfl,e⟩:=e;cases e;cases rw' with
  |cons r1 t=>
   cases t with
   |cons r2 t=>
    cases t;cases qB r1;cases qB r2;exact L2.call_min2 hc pins s σ H _ us Q I r ⟨_,_,rfl,k φ H _ (.refl _) R rfl⟩
 |bits=>
  replace e:=zl e;obtain⟨x0,rfl,e⟩:=e;split at e
  ·cases e;cases rw' with
   |cons r1 t=>
    cases t;cases qB r1;obtain⟨u,rfl,ru⟩:=L2.vals1 r;obtain⟨t,rfl⟩:=ru;rename_i j;exact call_int_bit_length ⟨.int ((Builtin.Int.intBits j:Nat):Int),H,I.tok _,⟨_,rfl⟩,k φ H _ (.refl _) R rfl⟩
  ·cases e
 |list=>
  replace e:=zl e;obtain⟨x0,rfl,e⟩:=e;replace e:=jA e;obtain⟨a,rfl,e⟩:=e;split at e
  ·rename_i ys ey;cases e;cases rw' with
   |cons r1 t=>
    cases t;obtain⟨p,rfl,hp⟩:=qL r1;obtain⟨p',zs,hp',hs,rs⟩:=R.its ey;rw[hp]at hp';cases hp';exact L2.call_list_of pins s σ H _ us Q I r ⟨p,zs,rfl,hs,λl hl=>k (φ++[l]) _ _ ⟨[l],rfl⟩ (R.newL hl rs) R.lastRef⟩
  ·cases e
 |int=>
  replace e:=zl e;obtain⟨x0,rfl,e⟩:=e;split at e
  ·cases e;cases rw' with
   |cons r1 t=>
    cases t;cases qB r1;exact L2.call_int1 pins s σ H _ us Q I r (.inl ⟨_,rfl,k φ H _ (.refl _) R rfl⟩)
  ·cases e;cases rw' with
   |cons r1 t=>
    cases t;cases zB r1;exact L2.call_int1 pins s σ H _ us Q I r (.inr ⟨_,rfl,k φ H _ (.refl _) R rfl⟩)
  ·cases e
 |repr=>
  replace e:=zl e;obtain⟨x0,rfl,e⟩:=e;unfold qCg at e;split at e
  ·rename_i v0 ev0;cases e;obtain⟨d,e1,e2⟩:=Option.bind_eq_some_iff.mp ev0;unfold Qz at e2;split at e2
   ·rename_i hsh;cases e2;cases rw' with
    |cons r1 t=>
     cases t;obtain⟨u,rfl,ru⟩:=L2.vals1 r;cases x0 with
     |ref a=>
      obtain⟨p,rfl,hp⟩:=qL r1;cases (show u=Value.ref p from ru);unfold qDc dat at e1;dsimp only at e1;split at e1
      ·rename_i f xs ey;obtain⟨ds,e2,rfl⟩:=Option.map_eq_some_iff.mp e1;obtain⟨p',zs,hp',hs,rs⟩:=R.lst (show qQ h a=some xs by unfold qQ;rw[ey]);rw[hp]at hp';cases hp';obtain⟨its,rv',pl,_⟩:=I.list hs;obtain⟨o,ho,hc',m,hd⟩:=pl.isList;have q:=QW (F3 I R 4) xs zs its ds e2 rs rv';have q2:=q.2.1;have hz':(listText (PyData.shownAll ds)).length<=sizeLine:=by simpa only[PyData.shown] using hsh.2
       obtain⟨bs,hb,hk,hna⟩:=q.list ho hc' hd (by simpa [PyData.showable] using hsh.1) hz';cases its with
       |nil=>
        obtain⟨⟨as,q1⟩,_,_⟩:=q;cases q1;refine call_repr_slot (by omega) ⟨o,ho,hc'⟩ F.slot_list_repr.toG (call_list_repr_empty ⟨o,ho,hc'⟩ ho hd ⟨_,_,rfl,?_⟩);exact⟨.str (PyData.shown (.list [])),H,I.tok _,⟨s.toks,by simp only[PyData.shown,PyData.shownAll,listText_nil]⟩,k φ H _ (.refl _) R rfl⟩
       |cons y l=>
        refine call_repr_slot (by omega) ⟨o,ho,hc'⟩ F.slot_list_repr.toG (call_list_reprK ho hc' hd hna (by simpa using hk.length_eq) (λi y e=>hk.item i y (by simpa using e)) hgd (λb _=>Clear.nil b) (by show X.A.units+1+_<cLine;omega) (λ_ _ e=>e) (λh1 u tk hk=>⟨_,_,rfl,?_⟩) hz');exact⟨.str (PyData.shown (.list ds)),H,I.kept hk,⟨u,by simp only[PyData.shown]⟩,k φ H _ (.refl _) R rfl⟩
      ·rename_i ws ey;obtain⟨ds,e2,rfl⟩:=Option.map_eq_some_iff.mp e1;obtain⟨p',zs,hp',hs,rs⟩:=R.tup (show qU h a=some ws by unfold qU;rw[ey]);rw[hp]at hp';cases hp';obtain⟨its,rv',pl,_⟩:=I.tuple hs;obtain⟨o,ho,hc',m,hd⟩:=pl;have q:=QW (F3 I R 4) ws zs its ds e2 rs rv';have q2:=q.2.1;have hz':(tupleText (PyData.shownAll ds)).length<=sizeLine:=by simpa only[PyData.shown] using hsh.2
       obtain⟨bs,hb,hk,hna⟩:=q.tuple ho hc' hd (by simpa [PyData.showable] using hsh.1) hz';refine call_repr_slot (by omega) ⟨o,ho,hc'⟩ F.slot_tuple_repr (call_tuple_reprK ho hc' hd hna (by simpa using hk) hgd (λb _=>Clear.nil b) (by show X.A.units+1+_<cLine;omega) (λ_ _ e=>e) (λh1 u tk hk=>⟨_,_,rfl,?_⟩) hz');exact⟨.str (PyData.shown (.tuple ds)),H,I.kept hk,⟨u,by simp only[PyData.shown]⟩,k φ H _ (.refl _) R rfl⟩
      ·rename_i ey;cases e1;obtain⟨as,q1,q2⟩:=k6 I R ey hp;refine repr_of_reads' q1 hsh.1 (λ_=>q2) hgd (by show X.A.units+(1+1)<cLine;omega) (λb o e=>e) (λh1 u tk hk=>?_) hsh.2;exact⟨.str (PyData.shown (.dict [])),H,I.kept hk,⟨_,rfl⟩,k φ H _ (.refl _) R rfl⟩
      ·cases e1
     |non=>
      cases e1;cases qj r1;cases (show u=Value.none from ru);exact PySem.P.repr_of_none ⟨.str (PyData.shown .none),H,I.tok _,⟨_,rfl⟩,k φ H _ (.refl _) R rfl⟩
     |bl b=>
      cases e1;cases zB r1;cases (show u=Value.bool b from ru);exact PySem.P.repr_of_bool ⟨.str (PyData.shown (.bool b)),H,I.tok _,⟨_,by cases b<;>rfl⟩,k φ H _ (.refl _) R rfl⟩
     |int i=>
      cases e1;cases qB r1;obtain⟨tt,rfl⟩:=ru;exact PySem.P.repr_of_int (vZ hsh.1) ⟨.str (PyData.shown (.int i)),H,I.tok _,⟨_,rfl⟩,k φ H _ (.refl _) R rfl⟩
     |str x=>
      cases e1;cases zG r1;obtain⟨tt,rfl⟩:=ru;exact PySem.P.repr_of_str ⟨.str (PyData.shown (.str x)),H,I.tok _,⟨_,rfl⟩,k φ H _ (.refl _) R rfl⟩ hsh.2
     |_=>cases e1
   ·cases e2
  ·cases e
end
open L2 (PW)
theorem zt{r:RV}{b:Bool}{h:AH}(e:asB r=.ok (b,h)):r=.ok (.bl b,h):=by
 unfold asB at e;obtain⟨⟨v,h1⟩,e1,e2⟩:=Res.bind_inv e;dsimp only at e2;split at e2
 ·cases e2;exact e1
 ·cases e2
theorem C6{r:RV}{b:Bool}{h:AH}(e:r=.ok (.bl b,h)):asB r=.ok (b,h):=by
 subst e;rfl
section
variable{X:Cx}{G:List Addr}{F:Nat->List V->AH->RV}{a b c:E}{as:Es}{ea eb ec:Expr}{es:List Expr}{pos:Pos}
theorem Zc{K:PySem.W.Frag}{σ:St}{H:Hp}{Q:Bool->Hp->Prop}(q:tT K G F a σ H Q):tE K G F a σ H (λx H'=>∃k,x=.bl k/\Q k H'):=by
 obtain⟨φ,h,σa,b,h',R,rs,e,k⟩:=q;exact⟨φ,h,σa,.bl b,h',R,rs,zt e,λφ' H' w x' R' r'=>⟨b,zB r',k φ' H' x' R'⟩⟩
theorem qR(h:SE X G F ea a)(he:∀whole,isTrue ea X.env whole=(do let v <- whole;standAt ea.pos;holding [v] (truthy v))):ST X G F ea a:=
 g8 (L2.pt_val h he) λ_ _ _ q=>Zc q
theorem k5{op:COp}{σc:St}{H:Hp}{Q:VK}(q:tE X.K G F (.cmp op a b) σc H Q):L2.tOp (qCq X G op) (tE X.K G F a) (tE X.K G F b) σc H Q:=by
 obtain⟨φ,h,σ,v,h',R,rs,e,k⟩:=q;unfold ev at e;obtain⟨⟨x,h1⟩,e1,e⟩:=Res.bind_inv e;obtain⟨⟨y,h2⟩,e2,e⟩:=Res.bind_inv e;refine jn R rs e1 e2 λφ2 H2 xc yc x2 R2 r1 r2=>?_;unfold qAx at e;dsimp only at e;split at e
 ·rename_i t et;cases e;exact⟨φ2,_,x,y,t,R2,r1,r2,et,k φ2 H2 _ x2 R2 rfl⟩
 ·cases e
theorem qBN{op:COp}(hu:X.A.units+8<cLine)(ha:SE X G F ea a)(hb:SE X G F eb b)(hm:behindInMarks (opC op) eb=false):SE X G F (.Compare ea [opC op] [eb] pos) (.cmp op a b):=
 qi (L2.pe_cmpR (ju hu op) ha hb hm) λ_ _ _=>k5
theorem qA5{op:COp}(hu:X.A.units+8<cLine)(ha:SE X G F ea a)(hb:SE X G F eb b)(hm:behindInMarks (opC op) eb=false):ST X G F (.Compare ea [opC op] [eb] pos) (.cmp op a b):=
 g8 (L2.pt_cmpR (ju hu op) ha hb hm) λ_ _ _ q=>k5 (Zc q)
theorem D9{o1 o2:COp}{σc:St}{H:Hp}{Q:VK}(q:tE X.K G F (.cmp2 o1 o2 a b c) σc H Q):L2.tChain (qCq X G o1) (qCq X G o2) (tE X.K G F a) (tE X.K G F b) (tE X.K G F c) σc H Q:=by
 obtain⟨φ,h,σ,v,h',R,rs,e,k⟩:=q;unfold ev at e;obtain⟨⟨x,h1⟩,e1,e⟩:=Res.bind_inv e;obtain⟨⟨y,h2⟩,e2,e⟩:=Res.bind_inv e;refine jn R rs e1 e2 λφ2 H2 xc yc x2 R2 r1 r2=>?_;dsimp only at e;split at e
 ·rename_i et;refine⟨φ2,_,x,y,true,R2,r1,r2,et,true,rfl,?_⟩;rw[if_pos rfl];obtain⟨⟨z,h3⟩,e3,e⟩:=Res.bind_inv e;refine⟨φ2,_,σ,z,h3,R2,rst.mono x2 rs,e3,λφ3 H3 zc x3 R3 r3=>?_⟩;unfold qAx at e;dsimp only at e;split at e
  ·rename_i t et;cases e;exact⟨φ3,_,y,z,t,R3,rv.mono x3 r2,r3,et,k φ3 H3 _ (x2.trans x3) R3 rfl⟩
  ·cases e
 ·rename_i et;cases e;refine⟨φ2,_,x,y,false,R2,r1,r2,et,false,rfl,?_⟩;rw[if_neg (by decide)];exact k φ2 H2 _ x2 R2 rfl
 ·cases e
theorem d6{o1 o2:COp}(hu:X.A.units+8<cLine)(ha:SE X G F ea a)(hb:SE X G F eb b)(hc:SE X G F ec c)(hm:lastMarks [opC o1,opC o2] [eb,ec]=false):SE X G F (.Compare ea [opC o1,opC o2] [eb,ec] pos) (.cmp2 o1 o2 a b c):=
 qi (L2.pe_chain (ju hu o1) (ju hu o2) ha hb hc hm) λ_ _ _=>D9
theorem Y9{o1 o2:COp}(hu:X.A.units+8<cLine)(ha:SE X G F ea a)(hb:SE X G F eb b)(hc:SE X G F ec c)(hm:lastMarks [opC o1,opC o2] [eb,ec]=false):ST X G F (.Compare ea [opC o1,opC o2] [eb,ec] pos) (.cmp2 o1 o2 a b c):=
 g8 (L2.pt_chain (ju hu o1) (ju hu o2) ha hb hc hm) λ_ _ _ q=>D9 (Zc q)
theorem n9{σc:St}{H:Hp}{Q:VK}(q:tE X.K G F (.and a b) σc H Q):L2.tAndV (tE X.K G F a) (tE X.K G F b) σc H Q:=by
 obtain⟨φ,h,σ,v,h',R,rs,e,k⟩:=q;unfold ev at e;obtain⟨⟨x,h1⟩,e1,e⟩:=Res.bind_inv e;refine⟨φ,h,σ,.bl x,h1,R,rs,zt e1,λφ1 H1 w x1 R1 r1=>⟨x,zB r1,?_⟩⟩;dsimp only at e;cases x with
 |true=>
  rw[if_pos rfl]at e ⊢;exact⟨φ1,h1,σ,v,h',R1,rst.mono x1 rs,e,λφ2 H2 w2 x2 R2 r2=>k φ2 H2 w2 (x1.trans x2) R2 r2⟩
 |false=>
  rw[if_neg (by decide)]at e ⊢;cases e;exact k φ1 H1 _ x1 R1 rfl
theorem qBu{σc:St}{H:Hp}{Q:VK}(q:tE X.K G F (.or a b) σc H Q):L2.tOrV (tE X.K G F a) (tE X.K G F b) σc H Q:=by
 obtain⟨φ,h,σ,v,h',R,rs,e,k⟩:=q;unfold ev at e;obtain⟨⟨x,h1⟩,e1,e⟩:=Res.bind_inv e;refine⟨φ,h,σ,.bl x,h1,R,rs,zt e1,λφ1 H1 w x1 R1 r1=>⟨x,zB r1,?_⟩⟩;dsimp only at e;cases x with
 |false=>
  rw[if_neg (by decide)]at e ⊢;exact⟨φ1,h1,σ,v,h',R1,rst.mono x1 rs,e,λφ2 H2 w2 x2 R2 r2=>k φ2 H2 w2 (x1.trans x2) R2 r2⟩
 |true=>
  rw[if_pos rfl]at e ⊢;cases e;exact k φ1 H1 _ x1 R1 rfl
theorem qA8{σc:St}{H:Hp}{Q:Bool->Hp->Prop}(q:tT X.K G F (.and a b) σc H Q):L2.tAnd (tT X.K G F a) (tT X.K G F b) σc H Q:=by
 obtain⟨φ,h,σ,t,h',R,rs,e,k⟩:=q;have e:=zt e;unfold ev at e;obtain⟨⟨x,h1⟩,e1,e⟩:=Res.bind_inv e;refine⟨φ,h,σ,x,h1,R,rs,e1,λφ1 H1 x1 R1=>?_⟩;dsimp only at e;cases x with
 |true=>
  rw[if_pos rfl]at e ⊢;exact⟨φ1,h1,σ,t,h',R1,rst.mono x1 rs,C6 e,λφ2 H2 x2 R2=>k φ2 H2 (x1.trans x2) R2⟩
 |false=>
  rw[if_neg (by decide)]at e ⊢;cases e;exact k φ1 H1 x1 R1
theorem qDJ{σc:St}{H:Hp}{Q:Bool->Hp->Prop}(q:tT X.K G F (.or a b) σc H Q):L2.tOr (tT X.K G F a) (tT X.K G F b) σc H Q:=by
 obtain⟨φ,h,σ,t,h',R,rs,e,k⟩:=q;have e:=zt e;unfold ev at e;obtain⟨⟨x,h1⟩,e1,e⟩:=Res.bind_inv e;refine⟨φ,h,σ,x,h1,R,rs,e1,λφ1 H1 x1 R1=>?_⟩;dsimp only at e;cases x with
 |false=>
  rw[if_neg (by decide)]at e ⊢;exact⟨φ1,h1,σ,t,h',R1,rst.mono x1 rs,C6 e,λφ2 H2 x2 R2=>k φ2 H2 (x1.trans x2) R2⟩
 |true=>
  rw[if_pos rfl]at e ⊢;cases e;exact k φ1 H1 x1 R1
variable (X G F) in
abbrev SW(e:Expr)(a:E):Prop:=PW X e (tT X.K G F a)
theorem qBZ{e:Expr}{t t':TT}(h:PW X e t)(w:∀σ H Q,t' σ H Q->t σ H Q):PW X e t':=λwh pins s σ H Q I q=>h wh pins s σ H Q I (w σ H Q q)
theorem qB1{QA:List Expr}(ha:SE X G F ea a)(hb:SE X G F (.BoolOp .And (eb::QA) pos) b):SE X G F (.BoolOp .And (ea::eb::QA) pos) (.and a b):=qi (L2.pe_and ha hb) λ_ _ _=>n9
theorem qDj{QA:List Expr}(ha:SE X G F ea a)(hb:SE X G F (.BoolOp .Or (eb::QA) pos) b):SE X G F (.BoolOp .Or (ea::eb::QA) pos) (.or a b):=qi (L2.pe_or ha hb) λ_ _ _=>qBu
theorem qBS{QA:List Expr}(ha:ST X G F ea a)(hb:SW X G F (.BoolOp .And (eb::QA) pos) b):SW X G F (.BoolOp .And (ea::eb::QA) pos) (.and a b):=qBZ (L2.pw_and ha hb) λ_ _ _=>qA8
theorem qDo{QA:List Expr}(ha:ST X G F ea a)(hb:SW X G F (.BoolOp .Or (eb::QA) pos) b):SW X G F (.BoolOp .Or (ea::eb::QA) pos) (.or a b):=qBZ (L2.pw_or ha hb) λ_ _ _=>qDJ
theorem qCM(ha:SE X G F ea a):SE X G F (.UnaryOp .Not ea pos) (.not a):=by
 refine qi (L2.pe_not ha) λσc H Q q=>?_;obtain⟨φ,h,σ,v,h',R,rs,e,k⟩:=q;unfold ev at e;obtain⟨⟨x,h1⟩,e1,e⟩:=Res.bind_inv e;cases e;exact⟨φ,h,σ,.bl x,_,R,rs,zt e1,λφ1 H1 w x1 R1 r1=>⟨x,zB r1,k φ1 H1 _ x1 R1 rfl⟩⟩
theorem qCH(ha:ST X G F ea a):ST X G F (.UnaryOp .Not ea pos) (.not a):=by
 refine g8 (L2.pt_not ha) λσc H Q q=>?_;obtain⟨φ,h,σ,t,h',R,rs,e,k⟩:=q;have e:=zt e;unfold ev at e;obtain⟨⟨x,h1⟩,e1,e⟩:=Res.bind_inv e;cases e;exact⟨φ,h,σ,x,_,R,rs,e1,λφ1 H1 x1 R1=>k φ1 H1 x1 R1⟩
theorem qB9(hc:ST X G F ec c)(ha:SE X G F ea a)(hb:SE X G F eb b):SE X G F (.IfExp ec ea eb pos) (.ite c a b):=by
 refine qi (L2.pe_ifExp hc ha hb) λσc H Q q=>?_;obtain⟨φ,h,σ,v,h',R,rs,e,k⟩:=q;unfold ev at e;obtain⟨⟨x,h1⟩,e1,e⟩:=Res.bind_inv e;refine⟨φ,h,σ,x,h1,R,rs,e1,λφ1 H1 x1 R1=>?_⟩;dsimp only at e;cases x with
 |true=>
  rw[if_pos rfl]at e ⊢;exact⟨φ1,h1,σ,v,h',R1,rst.mono x1 rs,e,λφ2 H2 w2 x2 R2 r2=>k φ2 H2 w2 (x1.trans x2) R2 r2⟩
 |false=>
  rw[if_neg (by decide)]at e ⊢;exact⟨φ1,h1,σ,v,h',R1,rst.mono x1 rs,e,λφ2 H2 w2 x2 R2 r2=>k φ2 H2 w2 (x1.trans x2) R2 r2⟩
theorem qCE(hc:ST X G F ec c)(ha:ST X G F ea a)(hb:ST X G F eb b):ST X G F (.IfExp ec ea eb pos) (.ite c a b):=by
 intro pins s σc H Q I q;obtain⟨φ,h,σ,t,h',R,rs,e,k⟩:=q;have e:=zt e;unfold ev at e;obtain⟨⟨x,h1⟩,e1,e⟩:=Res.bind_inv e;refine isTrue_IfExp (L2.thn (hc pins s σc H (λz H1=>(z=true->tT X.K G F a σc H1 Q)/\(z=false->tT X.K G F b σc H1 Q)) I ⟨φ,h,σ,x,h1,R,rs,e1,λφ1 H1 x1 R1=>?_⟩) λz s1 ⟨H1,I1,q1,q2⟩=>?_)
 ·dsimp only at e;cases x with
  |true=>
   rw[if_pos rfl]at e;exact⟨λ_=>⟨φ1,h1,σ,t,h',R1,rst.mono x1 rs,C6 e,λφ2 H2 x2 R2=>k φ2 H2 (x1.trans x2) R2⟩,λz=>nomatch z⟩
  |false=>
   rw[if_neg (by decide)]at e;exact⟨(λz=>nomatch z),λ_=>⟨φ1,h1,σ,t,h',R1,rst.mono x1 rs,C6 e,λφ2 H2 x2 R2=>k φ2 H2 (x1.trans x2) R2⟩⟩
 ·cases z with
  |true=>exact ha pins s1 σc H1 Q I1 (q1 rfl)
  |false=>exact hb pins s1 σc H1 Q I1 (q2 rfl)
noncomputable def qX:Expr->Bool
 | .Starred ..=>false
 |_=>true
theorem qG{e:Expr}{env:Env}(h:qX e=true):starEach (e::es) env=(false,eval e env)::starEach es env:=by
 cases e<;>first|rfl|cases h
theorem je{env:Env}:∀{es:List Expr},es.all qX=true->(backTo pos (starEach es env)).any (·.1)=false
 | [],_=>rfl
 |e::es,h=>by
  simp only[List.all_cons,Bool.and_eq_true]at h;rw[qG h.1];show (false||(backTo pos (starEach es env)).any (·.1))=false;rw[je h.2];rfl
theorem j8:SA X G F [] .nil:=by
 refine qBw L2.pa_nil λσc H Q q=>?_;obtain⟨φ,h,σ,v,h',R,rs,e,k⟩:=q;unfold evs at e;cases e;exact k φ H [] (.refl _) R .nil
theorem S0(hn:qX ea=true)(ha:SE X G F ea a)(hr:SA X G F es as):SA X G F (ea::es) (.cons a as):=by
 refine qBw (L2.pa_cons ha hr (qG hn)) λσc H Q q=>?_;obtain⟨φ,h,σ,v,h',R,rs,e,k⟩:=q;unfold evs at e;obtain⟨⟨x,h1⟩,e1,e⟩:=Res.bind_inv e;obtain⟨⟨xs,h2⟩,e2,e⟩:=Res.bind_inv e;cases e;exact⟨φ,h,σ,x,h1,R,rs,e1,λφ1 H1 w x1 R1 r1=>⟨φ1,h1,σ,xs,_,R1,rst.mono x1 rs,e2,λφ2 H2 ws x2 R2 r2=>k φ2 H2 _ (x1.trans x2) R2 (.cons (rv.mono x2 r1) r2)⟩⟩
theorem qBy(h:SA X G F es as):SE X G F (.List es pos) (.lst as):=by
 refine qi (L2.pe_lst h) λσc H Q q=>?_;obtain⟨φ,h,σ,v,h',R,rs,e,k⟩:=q;unfold ev at e;obtain⟨⟨xs,h1⟩,e1,e⟩:=Res.bind_inv e;refine⟨φ,h,σ,xs,h1,R,rs,e1,λφ1 H1 ws x1 R1 r1=>?_⟩;dsimp only at e;split at e
 ·rename_i hl;cases e;refine⟨by rw[<-Paired.length r1];exact Nat.le_trans hl QD,λp hp=>k (φ1++[p]) _ _ (x1.trans ⟨[p],rfl⟩) (R1.newL hp r1) R1.lastRef⟩
 ·cases e
theorem O4:SE X G F (.Dict [] [] pos) .dnew:=by
 intro pins s σc H Q I q;obtain⟨φ,h,σ,v,h',R,rs,e,k⟩:=q;unfold ev at e;cases e;have hbig:sysModules<s.heap.objs.size:=wk (by decide) (I.mod.glob.keeps I.bk).lt;have hn:=I.hok.fresh (Nat.le_refl s.heap.objs.size);exact wpAny_Dict_empty ⟨.ref s.heap.objs.size,_,I.laid (a:=s.heap.objs.size) (o:=.dK []) (t':=s.toks) (λ_ _ q=>Heap.get?_push_of_some _ q) (Nat.le_refl _)
  ⟨Nat.zero_le _,beq_eq_false_iff_ne.mpr (Ne.symm (wJ hbig)),[],.nil,Heap.DictOf.new s.heap⟩,rfl,
  k (φ++[s.heap.objs.size]) _ _ ⟨[s.heap.objs.size],rfl⟩ (R.new hn (o:=.ob (.dct [])) qF) R.lastRef⟩
theorem m9 {x1}(h:SA X G F es as):SE X G F (.Tuple es x1 pos) (.tup as):=by
 refine qi (L2.pe_tup h) λσc H Q q=>?_;obtain⟨φ,h,σ,v,h',R,rs,e,k⟩:=q;unfold ev at e;obtain⟨⟨xs,h1⟩,e1,e⟩:=Res.bind_inv e;refine⟨φ,h,σ,xs,h1,R,rs,e1,λφ1 H1 ws x1 R1 r1=>?_⟩;dsimp only at e;split at e
 ·rename_i hl;cases e;refine⟨by rw[<-Paired.length r1];exact Nat.le_trans hl QD,λp hp=>k (φ1++[p]) _ _ (x1.trans ⟨[p],rfl⟩) (R1.newT hp r1) R1.lastRef⟩
 ·cases e
variable (G F) in
noncomputable def spF(K:PySem.W.Frag)(f:Nat):L2.Sp:=λvs H Q _=>∃φ h ws v h',Rl K G φ h H/\rvs φ ws vs/\F f ws h=.ok (v,h')/\∀φ' H' w,Ext φ φ'->Rl K G φ' h' H'->rv φ' v w->Q w H'
variable (X G F) in
structure FnS(f:Nat)(x:Str):Prop where
 ex:∃k fa fd ps,L2.FnOk X.prog X.w X.K X.mg X.base L2.CX0 k fa fd ps (spF G F X.K f)/\L2.Room k X.A/\X.mg x=some (.ref fa)/\PySem.W.keepIn X.K (.ref fa)=true/\L2.Binds X.K fd ps []/\L2.Room k X.A.in1
theorem N2{f:Nat}{σc:St}{H:Hp}{Q:VK}(q:tE X.K G F (.call f as) σc H Q):L2.tCall (spF G F X.K f) [] L2.E0 (tL X.K G F as) σc H Q:=by
 obtain⟨φ,h,σ,v,h',R,rs,e,k⟩:=q;unfold ev at e;obtain⟨⟨xs,h1⟩,e1,e⟩:=Res.bind_inv e;refine⟨φ,h,σ,xs,h1,R,rs,e1,λφ1 H1 ws x1 R1 r1=>?_⟩;have e:F f xs h1=.ok (v,h'):=by
  have e:(F f xs h1).nx=.ok (v,h'):=e;revert e;generalize F f xs h1=r;cases r<;>intro e<;>first|exact e|cases e
 refine⟨φ1,h1,xs,v,h',R1,by rw[List.append_nil];exact r1,e,λφ2 H2 w x2 R2 r2=>k φ2 H2 w (x1.trans x2) R2 r2⟩
theorem q0{f:Nat}{x:Str}{p:Pos}(hf:FnS X G F f x)(hg:L2.Gl X x)(hd:(x==("__debug__":Str))=false)(hn:qX ea=true)(hs:es.all qX=true)(ha:SA X G F (ea::es) as):SE X G F (.Call (.Name x p) (ea::es) [] pos) (.call f as):=by
 obtain⟨k,fa,fd,ps,h1,h2,h3,h4,h5,_⟩:=hf.ex;exact qi (L2.pe_call h1 h2 hg h3 h4 h5 .nil L2.pass0 ha hd (qG hn) (je hs)) λ_ _ _=>N2
theorem Y4{f:Nat}{x:Str}{p:Pos}(hf:FnS X G F f x)(hg:L2.Gl X x)(hd:(x==("__debug__":Str))=false):SE X G F (.Call (.Name x p) [] [] pos) (.call f .nil):=by
 obtain⟨k,fa,fd,ps,h1,h2,h3,h4,h5,_⟩:=hf.ex;refine qi (L2.pe_call0 h1 h2 hg h3 h4 h5 .nil L2.pass0 hd) λσc H Q q=>?_;obtain⟨φ,h,σ,vs,h',R,rs,e,k⟩:=N2 q;unfold evs at e;cases e;exact k φ H [] (.refl _) R .nil
theorem k0{f:BF}{σc:St}{H:Hp}{Q:VK}(q:tE X.K G F (.blt f as) σc H Q):L2.tCB (qDH X G f) (tL X.K G F as) σc H Q:=by
 obtain⟨φ,h,σ,v,h',R,rs,e,k⟩:=q;unfold ev at e;obtain⟨⟨xs,h1⟩,e1,e⟩:=Res.bind_inv e;exact⟨φ,h,σ,xs,h1,R,rs,e1,λφ1 H1 ws x1 R1 r1=>⟨φ1,h1,xs,v,h',R1,r1,e,λφ2 H2 w x2 R2 r2=>k φ2 H2 w (x1.trans x2) R2 r2⟩⟩
theorem qBe{f:BF}{x:Str}{p:Pos}(hc:X.calm=true)(hu:X.A.units+8<cLine)(hgd:X.A.guards=some [])(hg:L2.Gl X x)(hm:X.mg x=none)(hv:bootBuiltins x=some (fnB f))(hn:qX ea=true)(hs:es.all qX=true)(ha:SA X G F (ea::es) as)
  (h1:x≠"__name__") (h2:(x==("__debug__":Str))=false):SE X G F (.Call (.Name x p) (ea::es) [] pos) (.blt f as):=by
 have rule:=Jb (G:=G) hc hu hgd f;cases f
 all_goals first
  |exact qi (L2.pe_callB rule hg hm hv ha h1 h2 (qG hn) (je hs)) λ_ _ _=>k0
  |exact qi (L2.pe_callTy rule hg hm hv ha h1 h2 (qG hn) (je hs)) λ_ _ _=>k0
theorem qAh{apos cpos:Pos}(hc:X.calm=true)(hu:X.A.units+8<cLine)(hgd:X.A.guards=some [])(hbase:attributeBase ea "bit_length" X.env (eval ea X.env)=eval ea X.env)(hline:(apos.endLine==cpos.line)=true)(ha:SE X G F ea a):
  SE X G F (.Call (.Attribute ea "bit_length" apos) [] [] cpos) (.blt .bits (.cons a .nil)):=by
 have rule:L2.MtR X "int.bit_length" (λx xs H Q=>∃i,x=.int i/\xs=[]/\qDH X G .bits [.int i] H Q):=λpins s σ H x xs v us Q I rx rs q=>by
  obtain⟨i,rfl,rfl,q⟩:=q;cases rs;exact Jb (G:=G) hc hu hgd .bits pins s σ H [.int i] [v] Q I (.cons rx .nil) q
 refine qi (L2.pe_bm0 PySem.F.plainAttrs_int PyProof.Rows.slot_int_bit_length PyProof.Rows.type_int_bit_length rule ha hbase hline) λσc H Q q=>?_;obtain⟨φ,h,σ,v,h',R,rs,e,k⟩:=q;unfold ev at e;obtain⟨⟨xs,h1⟩,e1,e2⟩:=Res.bind_inv e;unfold evs evs at e1;obtain⟨⟨x,h2⟩,e3,e4⟩:=Res.bind_inv e1;cases e4;replace e2:qCn .bits [x] h1=.ok (v,h'):=e2;cases x with
 |int i=>exact⟨φ,h,σ,_,_,R,rs,e3,λφ1 H1 w x1 R1 r1=>by
   cases qB r1;exact⟨rfl,i,rfl,rfl,φ1,_,[.int i],v,h',R1,.cons rfl .nil,e2,λφ2 H2 w x2 R2 r2=>k φ2 H2 w (x1.trans x2) R2 r2⟩⟩
 |_=>cases e2
noncomputable def JV(t:String):Bool:=t=="int"||t=="bool"||t=="list"||t=="tuple"||t=="str"||t=="dict"
theorem Qh(K:PySem.W.Frag):∀{t c:String},(t="NoneType"\/t="bool"\/t="int"\/t="str"\/t="list"\/t="tuple"\/t="dict")->JV c=true->PySem.W.kitOne K (.type t) (.type c)=some (zY t c):=by
 intro t c ht hc;have hc':c="int"\/c="bool"\/c="list"\/c="tuple"\/c="str"\/c="dict":=by
  simp only[JV,vN,beq_iff_eq]at hc;rcases hc with((((h|h)|h)|h)|h)|h<;>simp[h]
 rcases ht with rfl|rfl|rfl|rfl|rfl|rfl|rfl<;>rcases hc' with rfl|rfl|rfl|rfl|rfl|rfl<;>kernel_rfl
variable (X G) in
def qFy(c:String):List V->Hp->VK->Prop:=λxs H Q=>∃φ h xa x t,xs=[x,.ty c]/\Rl X.K G φ h H/\rv φ xa x/\zk h xa=some t/\Q (.bl (zY t c)) H
theorem T1{c:String}(hc:JV c=true):zD X (.builtin "isinstance") (qFy X G c):=by
 intro pins s σ H xs us Q I r ⟨φ,h,xa,x,t,e,R,rx,ht,q⟩;subst e;obtain⟨u,u2,rfl,r1,r2⟩:=L2.vals2 r;cases (show u2=Value.type c from r2);have fin:∀tk,EP X pins σ Q (.bool (zY t c)) { s with toks:=tk }:=λtk=>⟨.bl (zY t c),H,I.tok tk,rfl,q⟩
 cases xa with
 |non=>cases qj rx;cases r1;cases ht;exact PySem.W.kia_one PySem.W.kitx_none I.kIn True.intro (Qh _ (by simp) hc) (λz=>nomatch z) fin
 |bl i=>cases zB rx;cases r1;cases ht;exact PySem.W.kia_one PySem.W.kitx_bool I.kIn True.intro (Qh _ (by simp) hc) (λz=>nomatch z) fin
 |int i=>cases qB rx;obtain⟨t',rfl⟩:=r1;cases ht;exact PySem.W.kia_one PySem.W.kitx_int I.kIn True.intro (Qh _ (by simp) hc) (λz=>nomatch z) fin
 |str i=>cases zG rx;obtain⟨t',rfl⟩:=r1;cases ht;exact PySem.W.kia_one PySem.W.kitx_str I.kIn True.intro (Qh _ (by simp) hc) (λz=>nomatch z) fin
 |ref i=>
  obtain⟨p,rfl,hp⟩:=qL rx;cases r1;cases ey:h[i]? with
  |none=>rw[show zk h (.ref i)=none by simp only[zk,ey]]at ht;cases ht
  |some o=>
   cases o with
   |lst fz ys=>
    rw[show zk h (.ref i)=some "list" by simp only[zk,ey]]at ht;cases ht;obtain⟨p',zs,hp',hs,rs⟩:=R.lst (i:=i) (xs:=ys) (by unfold qQ;rw[ey]);rw[hp]at hp';cases hp';obtain⟨its,_,pl,_⟩:=I.list hs;obtain⟨o,ho,hcl,_⟩:=pl.isList;exact PySem.W.kia_one PySem.W.kitx_list I.kIn ⟨o,ho,hcl⟩ (Qh _ (by simp) hc) (λz=>nomatch z) fin
   |tup ys=>
    rw[show zk h (.ref i)=some "tuple" by simp only[zk,ey]]at ht;cases ht;obtain⟨p',zs,hp',hs,rs⟩:=R.tup (i:=i) (xs:=ys) (by unfold qU;rw[ey]);rw[hp]at hp';cases hp';obtain⟨its,_,pl,_⟩:=I.tuple hs;obtain⟨o,ho,hcl,_⟩:=pl;exact PySem.W.kia_one PySem.W.kitx_tuple I.kIn ⟨o,ho,hcl⟩ (Qh _ (by simp) hc) (λz=>nomatch z) fin
   |ob ks=>
    cases ks with
    |exn c=>rw[show zk h (.ref i)=none by simp only[zk,ey]]at ht;cases ht
    |dct kvs=>
     rw[show zk h (.ref i)=some "dict" by simp only[zk,ey]]at ht;cases ht;obtain⟨p',hp',hs⟩:=R.at ey;rw[hp]at hp';cases hp';obtain⟨_,_,vs,_,o,es,ep,h1,h2,_⟩:=(show L2.ObjOk X.prog X.w H s.heap p (.dK (kvs.map kk)) from I.hok p _ hs)
     exact PySem.W.kia_one PySem.W.kitx_dict I.kIn ⟨o,h1,h2.1⟩ (Qh _ (by simp) hc) (λz=>nomatch z) fin
 |_=>cases ht
theorem qBV{c:String}{xc:Str}{p pc:Pos}(hc:JV c=true)(hg:L2.Gl X "isinstance")(hm:X.mg "isinstance"=none)(hgc:L2.Gl X xc)(hmc:X.mg xc=none)(hvc:bootBuiltins xc=some (.type c))(hn1:xc≠"__name__")(hn2:(xc==("__debug__":Str))=false)
  (hn:qX ea=true) (ha:SE X G F ea a):SE X G F (.Call (.Name "isinstance" p) [ea,.Name xc pc] [] pos) (.isi a [c]):=by
 refine qi (L2.pe_callB (T1 (G:=G) hc) hg hm PyProof.Rows.boot_isinstance (L2.pa_cons ha (L2.pa_cons (L2.pe_bltn (v:=.ty c) hgc hmc hvc rfl hn1 hn2) L2.pa_nil rfl) (qG hn)) (by decide) (by decide) (qG hn) rfl) λσc H Q q=>?_;obtain⟨φ,h,σ,v,h',R,rs,e,k⟩:=q;unfold ev at e;obtain⟨⟨x,h1⟩,e1,e⟩:=Res.bind_inv e;refine⟨φ,h,σ,x,h1,R,rs,e1,λφ1 H1 w x1 R1 r1=>?_⟩;dsimp only at e;split at e
 ·rename_i t et;cases e;refine⟨φ1,_,x,w,t,rfl,R1,r1,et,?_⟩;have:=k φ1 H1 (.bl ([c].any (zY t))) x1 R1 rfl;simpa using this
 ·cases e
noncomputable def Qr:Expr->Bool
 | .Slice ..=>false
 |_=>true
theorem L4{e:Expr}(h:Qr e=true):L2.PlainIx e:=by
 intro o i;cases e<;>first|rfl|cases h
theorem qCV(hb':Qr eb=true)(ha:SE X G F ea a)(hb:SE X G F eb b):SE X G F (.Subscript ea eb pos) (.idx a b):=by
 refine qi (L2.pe_ix (L2.ix_list.or L2.ix_tup) ha hb (L4 hb')) λσc H Q q=>?_;obtain⟨φ,h,σ,v,h',R,rs,e,k⟩:=q;unfold ev at e;obtain⟨⟨x,h1⟩,e1,e⟩:=Res.bind_inv e;obtain⟨⟨y,h2⟩,e2,e⟩:=Res.bind_inv e;refine jn R rs e1 e2 λφ2 H2 xc yc x2 R2 r1 r2=>?_;cases x with
 |ref p=>
  cases y with
  |int i=>
   dsimp only at e;split at e
   ·rename_i xs ex;split at e
    ·rename_i w ew;cases e;obtain⟨p',zs,hp',hs,rs'⟩:=R2.its ex;obtain⟨q,rfl,hq⟩:=qL r1;rw[hp']at hq;cases hq;cases qB r2;obtain⟨j,ej,ew⟩:=Option.bind_eq_some_iff.mp ew;obtain⟨w',hw',rw'⟩:=qK rs' ew;have hat:L2.atI zs i=some w':=by
      unfold L2.atI;rw[<-Paired.length rs'];exact Option.bind_eq_some_iff.mpr ⟨j,ej,hw'⟩
     rcases hs with hs|hs
     ·exact .inl ⟨_,zs,i,w',rfl,rfl,hs,hat,k φ2 H2 w' x2 R2 rw'⟩
     ·exact .inr ⟨_,zs,i,w',rfl,rfl,hs,hat,k φ2 H2 w' x2 R2 rw'⟩
    ·cases e
   ·cases e
  |_=>cases e
 |_=>cases e
theorem ZT{φ:List Addr}{xs ys:List V}(r:rvs φ xs ys)(lo hi:Option Int):rvs φ (L2.cutV xs lo hi) (L2.cutV ys lo hi):=by
 unfold L2.cutV;rw[Paired.length r];exact qu _ (jL _ r)
variable (X G F) in
def SO(o:Option Expr)(as:Es):Prop:=L2.PO X o λσc H Q=>∃φ h σ is h',Rl X.K G φ h H/\rst φ σ σc/\(∃vs,evs F as σ h=.ok (vs,h')/\jH vs=some is)/\∀φ' H',Ext φ φ'->Rl X.K G φ' h' H'->Q is.head? H'
theorem qAg:SO X G F none .nil:=by
 intro pins s σc H Q I q;obtain⟨φ,h,σ,is,h',R,rs,⟨vs,e,ei⟩,k⟩:=q;unfold evs at e;cases e;cases ei;exact L2.po_none pins s σc H Q I (k φ H (.refl _) R)
theorem z9(ha:SE X G F ea a):SO X G F (some ea) (.cons a .nil):=by
 intro pins s σc H Q I q;obtain⟨φ,h,σ,is,h',R,rs,⟨vs,e,ei⟩,k⟩:=q;unfold evs at e;obtain⟨⟨x,h1⟩,e1,e⟩:=Res.bind_inv e;unfold evs at e;cases e;refine L2.po_some ha pins s σc H Q I ⟨φ,h,σ,x,_,R,rs,e1,λφ1 H1 w x1 R1 r1=>?_⟩;have hm:=ZI ei;cases is with
 |nil=>cases hm
 |cons i r=>
  simp only[List.map_cons,List.cons.injEq]at hm;obtain⟨rfl,_⟩:=hm;cases qB r1;exact⟨i,rfl,k φ1 H1 x1 R1⟩
theorem qBI{lo hi:Option Expr}{al ah:Es}{p2:Pos}(ha:SE X G F ea a)(hl:SO X G F lo al)(hh:SO X G F hi ah):SE X G F (.Subscript ea (.Slice lo hi none p2) pos) (.sl a al ah):=by
 refine qi (L2.pe_slice (L2.SlR.or L2.sl_list L2.sl_tup) ha hl hh) λσc H Q q=>?_;obtain⟨φ,h,σ,v,h',R,rs,e,k⟩:=q;unfold ev at e;obtain⟨⟨x,h1⟩,e1,e⟩:=Res.bind_inv e;obtain⟨⟨l,h2⟩,e2,e⟩:=Res.bind_inv e;obtain⟨⟨u,h3⟩,e3,e⟩:=Res.bind_inv e;cases x with
 |ref p=>
  cases eil:jH l with
  |none=>dsimp only at e;rw[eil]at e;cases e
  |some il=>
   cases eiu:jH u with
   |none=>dsimp only at e;rw[eil,eiu]at e;cases e
   |some iu=>
    dsimp only at e;rw[eil,eiu]at e;dsimp only at e;split at e
    ·rename_i xs ex;cases e;refine⟨φ,h,σ,_,h1,R,rs,e1,λφ1 H1 w x1 R1 r1=>?_⟩;refine⟨φ1,h1,σ,il,h2,R1,rst.mono x1 rs,⟨l,e2,eil⟩,λφ2 H2 x2 R2=>?_⟩;refine⟨φ2,h2,σ,iu,h3,R2,rst.mono (x1.trans x2) rs,⟨u,e3,eiu⟩,λφ3 H3 x3 R3=>?_⟩;obtain⟨p',zs,hp',hs,rs'⟩:=R3.lst ex;obtain⟨q,rfl,hq⟩:=qL (rv.mono (x2.trans x3) r1);rw[hp']at hq;cases hq;exact .inl ⟨_,zs,rfl,hs,λm hm=>k (φ3++[m]) _ _ ((x1.trans (x2.trans x3)).trans ⟨[m],rfl⟩) (R3.newL hm (ZT rs' _ _)) R3.lastRef⟩
    ·split at e
     ·rename_i xs ex;split at e
      ·cases e
      ·rename_i hw;cases e;refine⟨φ,h,σ,_,h1,R,rs,e1,λφ1 H1 w x1 R1 r1=>?_⟩;refine⟨φ1,h1,σ,il,h2,R1,rst.mono x1 rs,⟨l,e2,eil⟩,λφ2 H2 x2 R2=>?_⟩;refine⟨φ2,h2,σ,iu,h3,R2,rst.mono (x1.trans x2) rs,⟨u,e3,eiu⟩,λφ3 H3 x3 R3=>?_⟩;obtain⟨p',zs,hp',hs,rs'⟩:=R3.tup ex;obtain⟨q,rfl,hq⟩:=qL (rv.mono (x2.trans x3) r1);rw[hp']at hq;cases hq;exact .inr ⟨_,zs,rfl,hs,by rw[<-Paired.length rs'];exact hw,λm hm=>k (φ3++[m]) _ _ ((x1.trans (x2.trans x3)).trans ⟨[m],rfl⟩) (R3.newT hm (ZT rs' _ _)) R3.lastRef⟩
     ·cases e
 |_=>cases e
theorem qBa{apos cpos:Pos}(hbase:attributeBase ea "append" X.env (eval ea X.env)=eval ea X.env)(hline:(apos.endLine==cpos.line)=true)(hn:qX eb=true)(ha:SE X G F ea a)(hb:SE X G F eb b):
  SE X G F (.Call (.Attribute ea "append" apos) [eb] [] cpos) (.app a b):=by
 refine qi (L2.pe_bm PySem.F.plainAttrs_list PySem.F.slot_list_append PySem.F.type_list_append L2.mt_append ha (L2.pa_cons hb L2.pa_nil (qG hn)) hbase (by rw[qG hn];rfl) hline (qG hn) rfl) λσc H Q q=>?_;obtain⟨φ,h,σ,v,h',R,rs,e,k⟩:=q;unfold ev at e;obtain⟨⟨x,h1⟩,e1,e⟩:=Res.bind_inv e;dsimp only at e;split at e
 ·rename_i p;split at e
  ·rename_i ys ey;obtain⟨⟨y,h2⟩,e2,e⟩:=Res.bind_inv e;dsimp only at e;split at e
   ·rename_i xs ex;split at e
    ·rename_i hl;cases e;refine⟨φ,h,σ,_,h1,R,rs,e1,λφ1 H1 w x1 R1 r1=>?_⟩;obtain⟨p1,zs1,hp1,hs1,_⟩:=R1.lst ey;obtain⟨q,rfl,hq⟩:=qL r1;rw[hp1]at hq;cases hq;refine⟨.inl ⟨rfl,_,hs1⟩,φ1,h1,σ,y,h2,R1,rst.mono x1 rs,e2,λφ2 H2 yc x2 R2 r2=>?_⟩;obtain⟨q1,p2,zs2,hp2,hH2,rs2⟩:=R2.mut ex;have:=x2.get hp1;rw[hp2]at this;cases this;refine⟨_,zs2,yc,rfl,rfl,hH2,?_,k φ2 _ _ (x1.trans x2) (R2.set q1 hp2 (qO rs2 (.cons r2 .nil))) trivial⟩;rw[<-Paired.length rs2];exact wk hl l0
    ·cases e
   ·cases e
  ·cases e
 ·cases e
theorem Rl.same{K:PySem.W.Frag}{G φ:List Addr}{h:AH}{H H':Hp}(R:Rl K G φ h H)(s:Qx H H'):Rl K G φ h H':=⟨R.len,R.glob,λi o a e1 e2=>(R.obj i o a e1 e2).keep (.refl _) s,R.inj⟩
theorem JK{φ:List Addr}:∀{xs:List V},xs.all flat=true->rvs φ xs xs
 | [],_=>.nil
 |x::xs,h=>by
  simp only[List.all_cons,Bool.and_eq_true]at h;refine .cons ?_ (JK h.2);cases x<;>first|rfl|exact trivial|(cases h.1)
theorem QX{α β:Type}{R:α->β->Prop}{xs:List α}{us:List β}(h:Paired R xs us):Paired R xs.dropLast us.dropLast:=by
 rw[wv,wv,<-Paired.length h];exact qu _ h
theorem Qo{α β:Type}{R:α->β->Prop}{xs:List α}{us:List β}(h:Paired R xs us)(k:Nat):Paired R (xs.eraseIdx k) (us.eraseIdx k):=by
 rw[wX,wX];exact qO (qu _ h) (jL _ h)
theorem jG{α β:Type}{R:α->β->Prop}:∀{xs:List α}{us:List β},Paired R xs us->Paired R xs.reverse us.reverse
 |_,_,.nil=>.nil
 |_,_,.cons r t=>by
  rw[wq,wq];exact qO (jG t) (.cons r .nil)
theorem U9:zD X (.type "range") (λxs H Q=>∃j:Int,xs=[.int j]/\∀p,H p=none->Q (.ref p) (upd H p (.rng 0 j))):=by
 intro pins s σ H xs us Q I r ⟨j,e,q⟩;subst e;obtain⟨u,rfl,ru⟩:=L2.vals1 r;obtain⟨t,rfl⟩:=ru;refine call_range_1 ⟨.ref s.heap.objs.size,_,I.laid (λ_ _ q=>Heap.get?_push_of_some _ q) (Nat.le_refl _) ?_,rfl,q _ (I.hok.fresh (Nat.le_refl _))⟩;exact⟨_,_,_,Heap.get?_push_size _ rfl⟩
theorem Zs{P:Nat->V}:∀{n:Nat}{acc:List Value},acc.length=n->(∀(j:Nat) v,acc[j]?=some v->RelV (P j) v)->Vals ((List.range n).map P) acc:=by
 intro n
 induction n with
 |zero=>intro acc hl _;cases acc with|nil=>exact .nil|cons _ _=>simp at hl
 |succ n ih=>
  intro acc hl ha;have hne:acc≠[]:=by intro z;subst z;simp at hl
  rw[List.range_succ,wT,<-List.dropLast_concat_getLast hne];have hd:acc.dropLast.length=n:=by rw[List.length_dropLast,hl];rfl
  refine qO (ih hd λj v e=>ha j v ?_) (.cons (ha n _ ?_) .nil)
  ·rw[<-List.dropLast_concat_getLast hne,List.getElem?_append_left (List.getElem?_eq_some_iff.mp e).1];exact e
  ·rw[wA (by omega),List.getLast_eq_getElem];congr 1;simp[hl]
theorem Zd(hc:X.calm=true):zD X (.type "list") (λxs H Q=>∃p,∃j:Int,xs=[.ref p]/\H p=some (.rng 0 j)/\(-1000000<=j/\j<=100000)/\∀l,H l=none->Q (.ref l) (upd H l (.lst (jF 0 j.toNat)))):=by
 intro pins s σ H xs us Q I r ⟨p,j,e,hp,hj,q⟩;subst e;obtain⟨u,rfl,ru⟩:=L2.vals1 r;cases ru;obtain⟨t,u,v,hr⟩:=I.hok p _ hp;have hn:Builtin.Range.rangeSize 0 j 1=((j.toNat:Nat):Int):=by rw[rangeSize_one];split<;>omega
 refine call_list_range (I.ok.hd hc) hr (small_one (by omega) (by omega) (by omega) (by omega)) hn (by omega) λh' tk acc' c' hk hS hI=>?_;refine⟨.ref s.heap.objs.size,_,I.laid (t':=tk) hk (Nat.le_refl _) ?_,rfl,q _ (I.hok.fresh (Nat.le_refl _))⟩;obtain⟨i1,i2⟩:=hI;refine⟨?_,acc'.toList,c',Zs (by simpa using i1) λk v e=>?_,by simpa using hS⟩
 ·have:=QD;unfold lim at this;rw[jF,wR,List.length_range];omega
 ·obtain⟨t',rfl⟩:=i2 k v (by simpa using e);exact⟨t',by rw[Int.mul_one]⟩
theorem qAW{p p2 pos2:Pos}(hc:X.calm=true)(hg:L2.Gl X "list")(hm:X.mg "list"=none)(hg2:L2.Gl X "range")(hm2:X.mg "range"=none)(hn:qX ea=true)(ha:SE X G F ea a):
  SE X G F (.Call (.Name "list" p) [.Call (.Name "range" p2) [ea] [] pos2] [] pos) (.lrng a):=by
 refine qi (L2.pe_callTy (Zd hc) hg hm PyProof.Rows.boot_list (L2.pa_cons (L2.pe_callTy U9 hg2 hm2 PyProof.Rows.boot_range (L2.pa_cons ha L2.pa_nil (qG hn)) (by decide) (by decide) (qG hn) rfl) L2.pa_nil rfl) (by decide) (by decide) rfl rfl) λσc H Q q=>?_;obtain⟨φ,h,σ,v,h',R,rs,e,k⟩:=q;unfold ev at e;obtain⟨⟨x,h1⟩,e1,e⟩:=Res.bind_inv e;refine⟨φ,h,σ,x,h1,R,rs,e1,λφ1 H1 w x1 R1 r1=>?_⟩;cases x with
 |int j=>
  dsimp only at e;split at e
  ·rename_i hj;cases e;cases qB r1;refine⟨j,rfl,λp hp=>⟨p,j,rfl,qF,hj,λl hl=>?_⟩⟩;have hlp:l≠p:=by rintro rfl;rw[qF]at hl;cases hl
   have R2:Rl X.K G φ1 h1 (upd H1 p (.rng 0 j)):=R1.same (Zb hp);exact k (φ1++[l]) _ _ (x1.trans ⟨[l],rfl⟩) (R2.newL hl (JK (by simp[jF,flat]))) R2.lastRef
  ·cases e
 |_=>cases e
theorem u6{m:Mt}{r:V->List V->Hp->VK->Prop}{σc:St}{H:Hp}{Q:VK}{as:Es}
  (hr:∀φ h H p ys ws v h' Q,Rl X.K G φ h H->rvs φ ys ws->QJ m p ys h=.ok (v,h')->(∀φ' H' w,Ext φ φ'->Rl X.K G φ' h' H'->rv φ' v w->Q w H')->∀a,φ[p]?=some a->r (.ref a) ws H Q)
  (q:tE X.K G F (.meth m a as) σc H Q):L2.tBM X.K "list" r (tE X.K G F a) (tL X.K G F as) σc H Q:=by
 obtain⟨φ,h,σ,v,h',R,rs,e,k⟩:=q;unfold ev at e;obtain⟨⟨x,h1⟩,e1,e⟩:=Res.bind_inv e;dsimp only at e;split at e
 ·rename_i p;split at e
  ·rename_i ys ey;obtain⟨⟨zs,h2⟩,e2,e⟩:=Res.bind_inv e;refine⟨φ,h,σ,_,h1,R,rs,e1,λφ1 H1 w x1 R1 r1=>?_⟩;obtain⟨p1,zs1,hp1,hs1,_⟩:=R1.lst ey;obtain⟨q,rfl,hq⟩:=qL r1;rw[hp1]at hq;cases hq;exact⟨.inl ⟨rfl,_,hs1⟩,φ1,h1,σ,zs,h2,R1,rst.mono x1 rs,e2,λφ2 H2 yc x2 R2 r2=>hr φ2 h2 H2 p zs yc v h' Q R2 r2 e (λφ3 H3 w x3 R3 r3=>k φ3 H3 w (x1.trans (x2.trans x3)) R3 r3) _ (x2.get hp1)⟩
  ·cases e
 ·cases e
theorem Zy{m:Mt}{r:V->List V->Hp->VK->Prop}{σc:St}{H:Hp}{Q:VK}
  (hr:∀φ h H p ys ws v h' Q,Rl X.K G φ h H->rvs φ ys ws->QJ m p ys h=.ok (v,h')->(∀φ' H' w,Ext φ φ'->Rl X.K G φ' h' H'->rv φ' v w->Q w H')->∀a,φ[p]?=some a->r (.ref a) ws H Q)
  (q:tE X.K G F (.meth m a .nil) σc H Q):L2.tBM0 X.K "list" r (tE X.K G F a) σc H Q:=by
 obtain⟨φ,h,σ,v,h',R,rs,e,k⟩:=q;unfold ev at e;obtain⟨⟨x,h1⟩,e1,e⟩:=Res.bind_inv e;dsimp only at e;split at e
 ·rename_i p;split at e
  ·rename_i ys ey;obtain⟨⟨zs,h2⟩,e2,e⟩:=Res.bind_inv e;unfold evs at e2;cases e2;refine⟨φ,h,σ,_,h1,R,rs,e1,λφ1 H1 w x1 R1 r1=>?_⟩;obtain⟨p1,zs1,hp1,hs1,_⟩:=R1.lst ey;obtain⟨q,rfl,hq⟩:=qL r1;rw[hp1]at hq;cases hq;exact⟨.inl ⟨rfl,_,hs1⟩,hr φ1 h1 H1 p [] [] v h' Q R1 .nil e (λφ3 H3 w x3 R3 r3=>k φ3 H3 w (x1.trans x3) R3 r3) _ hp1⟩
  ·cases e
 ·cases e
theorem X8:∀φ h H p ys ws v h' Q,Rl X.K G φ h H->rvs φ ys ws->QJ .pop p ys h=.ok (v,h')->(∀φ' H' w,Ext φ φ'->Rl X.K G φ' h' H'->rv φ' v w->Q w H')->∀a,φ[p]?=some a->L2.rPop (.ref a) ws H Q:=by
 intro φ h H p ys ws v h' Q R rw' e k a ha;cases ys with
 |cons y ys=>cases e
 |nil=>
  cases rw';unfold QJ at e;dsimp only at e;split at e
  ·rename_i xs ex;split at e
   ·rename_i y ey;cases e;obtain⟨q1,p2,zs2,hp2,hH2,rs2⟩:=R.mut ex;rw[ha]at hp2;cases hp2;obtain⟨w,hw,rw2⟩:=qK rs2 ey;refine⟨a,zs2,w,rfl,rfl,hH2,by rw[<-Paired.length rs2];exact hw,k φ _ _ (.refl _) (R.set q1 ha (QX rs2)) rw2⟩
   ·cases e
  ·cases e
theorem K6:∀φ h H p ys ws v h' Q,Rl X.K G φ h H->rvs φ ys ws->QJ .popAt p ys h=.ok (v,h')->(∀φ' H' w,Ext φ φ'->Rl X.K G φ' h' H'->rv φ' v w->Q w H')->∀a,φ[p]?=some a->L2.rPopAt (.ref a) ws H Q:=by
 intro φ h H p ys ws v h' Q R rw' e k a ha;unfold QJ at e;split at e
 all_goals first|(rename_i z _ _;cases z;done)|(rename_i z _;cases z;done)|(rename_i z;cases z;done)|skip
 ·cases rw' with
  |cons r1 t=>
   cases t;cases qB r1;split at e
   ·rename_i xs ex;split at e
    ·rename_i hl;split at e
     ·rename_i j ej;split at e
      ·rename_i y ey;cases e;obtain⟨q1,p2,zs2,hp2,hH2,rs2⟩:=R.mut ex;rw[ha]at hp2;cases hp2;obtain⟨w,hw,rw2⟩:=qK rs2 ey;obtain⟨s1,s2,s3,s4⟩:=L2.ixN_seq ej;have:=QD;unfold lim at hl;refine⟨a,zs2,_,j,w,rfl,rfl,hH2,by omega,by omega,by rw[<-Paired.length rs2];exact s1,hw,k φ _ _ (.refl _) (R.set q1 ha (Qo rs2 j)) rw2⟩
      ·cases e
     ·cases e
    ·cases e
   ·cases e
 ·cases e
theorem g5:∀φ h H p ys ws v h' Q,Rl X.K G φ h H->rvs φ ys ws->QJ .rev p ys h=.ok (v,h')->(∀φ' H' w,Ext φ φ'->Rl X.K G φ' h' H'->rv φ' v w->Q w H')->∀a,φ[p]?=some a->L2.rReverse (.ref a) ws H Q:=by
 intro φ h H p ys ws v h' Q R rw' e k a ha;cases ys with
 |cons y ys=>cases e
 |nil=>
  cases rw';unfold QJ at e;dsimp only at e;split at e
  ·rename_i xs ex;cases e;obtain⟨q1,p2,zs2,hp2,hH2,rs2⟩:=R.mut ex;rw[ha]at hp2;cases hp2;exact⟨a,zs2,rfl,rfl,hH2,k φ _ _ (.refl _) (R.set q1 ha (jG rs2)) trivial⟩
  ·cases e
theorem X5:∀φ h H p ys ws v h' Q,Rl X.K G φ h H->rvs φ ys ws->QJ .clr p ys h=.ok (v,h')->(∀φ' H' w,Ext φ φ'->Rl X.K G φ' h' H'->rv φ' v w->Q w H')->∀a,φ[p]?=some a->L2.rClear (.ref a) ws H Q:=by
 intro φ h H p ys ws v h' Q R rw' e k a ha;cases ys with
 |cons y ys=>cases e
 |nil=>
  cases rw';unfold QJ at e;dsimp only at e;split at e
  ·rename_i xs ex;cases e;obtain⟨q1,p2,zs2,hp2,hH2,rs2⟩:=R.mut ex;rw[ha]at hp2;cases hp2;exact⟨a,zs2,rfl,rfl,hH2,k φ _ _ (.refl _) (R.set q1 ha .nil) trivial⟩
  ·cases e
theorem a7{apos cpos:Pos}(hbase:attributeBase ea "pop" X.env (eval ea X.env)=eval ea X.env)(hline:(apos.endLine==cpos.line)=true)(hn:qX eb=true)(ha:SE X G F ea a)(hb:SE X G F eb b):
  SE X G F (.Call (.Attribute ea "pop" apos) [eb] [] cpos) (.meth .popAt a (.cons b .nil)):=
 qi (L2.pe_bm PySem.F.plainAttrs_list PySem.F.slot_list_pop PySem.F.type_list_pop L2.mt_popAt ha (S0 hn hb j8) hbase (by rw[qG hn];rfl) hline (qG hn) rfl) λ_ _ _=>u6 K6
theorem qAR{apos cpos:Pos}(hbase:attributeBase ea "pop" X.env (eval ea X.env)=eval ea X.env)(hline:(apos.endLine==cpos.line)=true)(ha:SE X G F ea a):SE X G F (.Call (.Attribute ea "pop" apos) [] [] cpos) (.meth .pop a .nil):=
 qi (L2.pe_bm0 PySem.F.plainAttrs_list PySem.F.slot_list_pop PySem.F.type_list_pop L2.mt_pop ha hbase hline) λ_ _ _=>Zy X8
theorem w4{apos cpos:Pos}(hbase:attributeBase ea "reverse" X.env (eval ea X.env)=eval ea X.env)(hline:(apos.endLine==cpos.line)=true)(ha:SE X G F ea a):SE X G F (.Call (.Attribute ea "reverse" apos) [] [] cpos) (.meth .rev a .nil):=
 qi (L2.pe_bm0 PySem.F.plainAttrs_list PySem.F.slot_list_reverse PySem.F.type_list_reverse L2.mt_reverse ha hbase hline) λ_ _ _=>Zy g5
theorem y4{apos cpos:Pos}(hbase:attributeBase ea "clear" X.env (eval ea X.env)=eval ea X.env)(hline:(apos.endLine==cpos.line)=true)(ha:SE X G F ea a):SE X G F (.Call (.Attribute ea "clear" apos) [] [] cpos) (.meth .clr a .nil):=
 qi (L2.pe_bm0 PySem.F.plainAttrs_list PySem.F.slot_list_clear PySem.F.type_list_clear L2.mt_clear ha hbase hline) λ_ _ _=>Zy X5
end
theorem qAT{φ:List Addr}{v w w':V}(a:rv φ v w)(b:rv φ v w'):w=w':=by
 cases v with
 |ref i=>
  obtain⟨x,rfl,e1⟩:=qL a;obtain⟨y,rfl,e2⟩:=qL b;rw[e1]at e2;cases e2;rfl
 |int i=>rw[qB a,qB b]
 |bl i=>rw[zB a,zB b]
 |str i=>rw[zG a,zG b]
 |non=>rw[qj a,qj b]
 |_=>cases w<;>cases a
theorem QL{φ:List Addr}:∀{vs ws ws':List V},rvs φ vs ws->rvs φ vs ws'->ws=ws'
 |_,_,_,.nil,.nil=>rfl
 |_,_,_,.cons a r,.cons b s=>by rw[qAT a b,QL r s]
theorem Rl.pre{K:PySem.W.Frag}{G φ φ':List Addr}{h h2:AH}{H0 H1:Hp}(R0:Rl K G φ h H0)(R1:Rl K G φ' h2 H1)(x:Ext φ φ')(ht:h2.take h.length=h):Rl K G φ h H1:=by
 have up:∀{i:Nat}{o:O},h[i]?=some o->h2[i]?=some o:=λ{i o} e=>by
  have hi:=(List.getElem?_eq_some_iff.mp e).1;rw[<-ht,wM hi]at e;exact e
 refine⟨R0.len,R0.glob,λi o a e ea=>?_,λi j u y a m1 m2 e1 e2 e3 e4=>R1.inj i j u y a m1 m2 (up e1) (up e2) (x.get e3) (x.get e4)⟩;have r1:=R1.obj i o a (up e) (x.get ea);have r0:=R0.obj i o a e ea
 match o,r0,r1 with
 | .lst false xs,⟨ys,_,p⟩,⟨ys',e',p'⟩=>rw[QL p' (rvs.mono x p)]at e';exact⟨ys,e',p⟩
 | .lst true xs,⟨ys,_,p⟩,⟨ys',e',p'⟩=>rw[QL p' (rvs.mono x p)]at e';exact⟨ys,e',p⟩
 | .tup xs,⟨ys,_,p⟩,⟨ys',e',p'⟩=>rw[QL p' (rvs.mono x p)]at e';exact⟨ys,e',p⟩
 | .ob (.dct _),_,e'=>exact e'
 | .ob (.exn _),_,e'=>exact e'
open L2 (It JU Qy)
abbrev Zf(h:Heap)(z ti to:Addr)(f0 f1:Value):Prop:=
 h.get? z=some { cls:=.type "zip",dict:=none,data:=.fields #[f0,f1,.bool false,.ref ti,.ref to],slots:=#[] }
section
variable{P:Program}{w:World}{K:Type}[DecidableEq K]{knd:KeyKind P w K}{A:Around}{E:Value->Shared->Prop}{z ti to i1 i2 a b d:Addr}{xs ys:Array Value}
def Left(knd:KeyKind P w K)(xs ys:Array Value)(k:Nat)(L:List (K×Value)):Prop:=
 (∀j p,L[j]?=some p->∃x,xs[k+j]?=some x/\knd.is p.1 x=true/\ys[k+j]?=some p.2)/\(xs[k+L.length]?=none\/ys[k+L.length]?=none)
theorem Left.next{k:Nat}{p:K×Value}{L:List (K×Value)}(h:Left knd xs ys k (p::L)):(∃x,xs[k]?=some x/\knd.is p.1 x=true/\ys[k]?=some p.2)/\Left knd xs ys (k+1) L:=by
 refine⟨by simpa using h.1 0 p rfl,λj q e=>?_,?_⟩
 ·have:=h.1 (j+1) q (by simpa using e);rw[show k+(j+1)=k+1+j by omega]at this;exact this
 ·have:=h.2;rw[List.length_cons,show k+(L.length+1)=k+1+L.length by omega]at this;exact this
end
noncomputable def Itz(K:PySem.W.Frag)(a b:Addr):It:=
 ⟨λi H=>∃xs ys x y,SqL K H a xs/\SqL K H b ys/\xs[i]?=some x/\ys[i]?=some y,
  λi H v H'=>∃p x y,H p=none/\v=.ref p/\H'=upd H p (.tup [x,y])/\(∀xs,SqL K H a xs->xs[i]?=some x)/\∀ys,SqL K H b ys->ys[i]?=some y,
  λi H=>∃xs ys,SqL K H a xs/\SqL K H b ys/\(xs.length<=i\/ys.length<=i)⟩
theorem n8{X:Cx}{pins:List (Addr×Obj)}{σ:L2.St}{H:Hp}{s:Shared}{h':Heap}{T:Addr}{xs:List V}{its:List Value}{ch:List Addr}{t':Nat}(I:Inv X pins σ H s)(hf:∀b∈ch,Qy X pins H b)
  (hT:s.heap.objs.size<=T) (k:∀b o,b∉ch->s.heap.get? b=some o->h'.get? b=some o) (hp:IsTup h' T its.toArray) (hv:Vals xs its) (hz:xs.length<=sizeLine) (hTc:T∉ch):
  Inv X pins σ (upd H T (.tup xs)) { s with heap:=h',toks:=t' }:=by
 have hn:H T=none:=I.hok.fresh hT;have neT:∀b o,s.heap.get? b=some o->b≠T:=λb o e=>wJ (wB (Heap.lt_size e) hT);refine I.step (g':=s.gens) (d':=s.drawn) (ch:=ch) (λb hb=>⟨(hf b hb).2.2.2.1,(hf b hb).2.1,(hf b hb).2.2.2.2.1,(hf b hb).2.2.2.2.2⟩) (λb o _ _ hc e _=>k b o hc e) (λb o _ _ hc e _=>⟨o.slots,k b o hc e⟩)
  (λb o _ e n=>by rw[qE (neT b o e)];exact n) (λb o hc e=>⟨o,k b o hc e⟩) (λb ys e=>by rw[qE (L2.ne_of_none e hn)];exact e) (λb o u e=>by rw[qE (L2.ne_of_none e hn)];exact e)
  (λb ps e=>⟨#[],by rw[qE (L2.ne_of_none e hn),e];simp⟩) (λm hm=>?_) (λb u e=>?_) I.bare
 ·obtain⟨o,es,ep,ho,r⟩:=hm;exact⟨o,es,ep,k _ o (λz=>(hf _ z).2.1 rfl) ho,r⟩
 ·by_cases hb:b=T
  ·subst hb;rw[qF]at e;cases e;exact⟨hz,its,hv,hp⟩
  ·rw[qE hb]at e;have nc:∀c u,H c=some u->c∉ch:=λc u q z=>by rw[(hf c z).1]at q;cases q
   refine(I.hok b u e).stay (λc v hc q=>k c v ?_ q) (λc q=>by rw[qE (L2.ne_of_none q hn)];exact q) λc ys q=>by rw[qE (L2.ne_of_none q hn)];exact q
   rcases hc with z|z
   ·rw[z];exact nc b u e
   ·exact nc c _ z
theorem c7{P:Program}{w:World}{K:PySem.W.Frag}{elts:List Expr}{kk:Nat}{tpos:Pos}(z TI TO i1 i2 a b:Addr)(D:ZipApart z TI TO i1 i2 a b):
  JU P w K (.Tuple elts kk tpos) (Itz K a b) [z,TI,TO,i1,i2] z (λi h=>IsZip h z TI TO .none/\IsPair h TI (.ref i1) (.ref i2)/\(∃x y,IsPair h TO x y)/\h.IsListIter i1 a i/\h.IsListIter i2 b i) where
 mem:=by simp
 obj:=λi h st c hc=>by
  obtain⟨h1,h2,⟨x,y,h3⟩,⟨o4,e4,c4,d4⟩,⟨o5,e5,c5,d5⟩⟩:=st;simp only[List.mem_cons,wZ,or_false]at hc;rcases hc with rfl|rfl|rfl|rfl|rfl
  ·exact⟨_,h1,λv q=>by have q':Data.fields _=Data.cell v:=q;cases q'⟩
  ·exact⟨_,h2,λv q=>by have q':Data.seq _ _=Data.cell v:=q;cases q'⟩
  ·exact⟨_,h3,λv q=>by have q':Data.seq _ _=Data.cell v:=q;cases q'⟩
  ·exact⟨o4,e4,λv q=>by rw[d4]at q;cases q⟩
  ·exact⟨o5,e5,λv q=>by rw[d5]at q;cases q⟩
 keep:=λi h h' st k=>by
  obtain⟨h1,h2,⟨x,y,h3⟩,h4,h5⟩:=st;exact⟨k z (by simp) _ h1,k TI (by simp) _ h2,⟨x,y,k TO (by simp) _ h3⟩,h4.at λo e=>k i1 (by simp) o e,h5.at λo e=>k i2 (by simp) o e⟩
 item:=by
  intro X hP hw hK hc i pins s σ H E I hf st hg;subst hP hw hK;obtain⟨xs,ys,x,y,hq1,hq2,hx,hy⟩:=hg;obtain⟨its1,rv1,p1,_⟩:=I.list hq1;obtain⟨its2,rv2,p2,_⟩:=I.list hq2;obtain⟨u,hu,ru⟩:=rv1.get hx;obtain⟨w',hw',rw'⟩:=rv2.get hy;obtain⟨h1,h2,⟨ta,tb,h3⟩,h4,h5⟩:=st;refine wpAny_pyNext_zip_item D h1 h2 h3 h4 h5 p1.isList p2.isList (x:=u) (y:=w') (by simpa using hu) (by simpa using hw') λh' z1 z2 z3 z4 z5 z6 z7=>?_;refine⟨_,rfl,wpAny_letOwnedTupleGo_zip z1 λh'' g1 gs=>?_⟩;have lt:∀c∈[z,TI,TO,i1,i2],c≠s.heap.objs.size:=λc hc=>by
   have ex:∃o,s.heap.get? c=some o:=by
    simp only[List.mem_cons,wZ,or_false]at hc;rcases hc with rfl|rfl|rfl|rfl|rfl
    ·exact⟨_,h1⟩
    ·exact⟨_,h2⟩
    ·exact⟨_,h3⟩
    ·obtain⟨o,e,_⟩:=h4;exact⟨o,e⟩
    ·obtain⟨o,e,_⟩:=h5;exact⟨o,e⟩
   obtain⟨o,e⟩:=ex;exact wJ (Heap.lt_size e)
  have up:∀c o,c≠z->h'.get? c=some o->h''.get? c=some o:=λc o hz e=>gs.extBut c o hz e;have kp:∀c o,c∉[z,TI,TO,i1,i2]->s.heap.get? c=some o->h''.get? c=some o:=λc o hn e=>by
   simp only[List.mem_cons,wZ,or_false,not_or]at hn;exact up c o hn.1 (z7 c o hn.1 hn.2.2.1 hn.2.2.2.1 hn.2.2.2.2 e)
  have ht:IsTup h'' s.heap.objs.size #[u,w']:=⟨_,up _ _ (Ne.symm (lt z (by simp))) z5,rfl,_,rfl⟩
  have I1:=n8 (t':=s.toks) (xs:=[x,y]) (its:=[u,w']) I hf (Nat.le_refl _) kp ht (.cons ru (.cons rw' .nil)) (by show 2<=sizeLine;decide) (λq=>lt _ q rfl);refine⟨.ref s.heap.objs.size,_,I1,rfl,⟨s.heap.objs.size,x,y,I.hok.fresh (Nat.le_refl _),rfl,rfl,λzs hz=>by rw[I.list_inj hz hq1];exact hx,λzs hz=>by rw[I.list_inj hz hq2];exact hy⟩,
   ⟨g1,up _ _ D.TIz (z7 TI _ D.TIz D.TITO D.TIi1 D.TIi2 h2),⟨_,_,up _ _ D.TOz z2⟩,z3.at λo e=>up _ o D.i1z e,z4.at λo e=>up _ o D.i2z e⟩,λc hc=>?_⟩
  rw[qE (lt c hc)];exact(hf c hc).1
 done:=by
  intro X hP hw hK hc i pins s σ H E I hf st hg;subst hP hw hK;obtain⟨xs,ys,hq1,hq2,hl⟩:=hg;obtain⟨its1,rv1,p1,_⟩:=I.list hq1;obtain⟨its2,rv2,p2,_⟩:=I.list hq2;obtain⟨h1,h2,⟨ta,tb,h3⟩,h4,h5⟩:=st;have n1:=rv1.length;have n2:=rv2.length;refine wpAny_pyNext_zip_end (I.ok.hd hc) D h1 h2 h3 h4 h5 p1.isList p2.isList ?_ λh' z7=>⟨rfl,?_⟩
  ·rcases hl with hl|hl
   ·left;simp;omega
   ·right;simp;omega
  ·have kp:∀c o,c∉[z,TI,TO,i1,i2]->s.heap.get? c=some o->h'.get? c=some o:=λc o hn e=>by
    simp only[List.mem_cons,wZ,or_false,not_or]at hn;exact z7 c o hn.1 hn.2.2.1 hn.2.2.2.1 hn.2.2.2.2 e
   refine I.step (g':=s.gens) (d':=s.drawn) (t':=s.toks) (ch:=[z,TI,TO,i1,i2]) (λb hb=>⟨(hf b hb).2.2.2.1,(hf b hb).2.1,(hf b hb).2.2.2.2.1,(hf b hb).2.2.2.2.2⟩) (λb o _ _ hc e _=>kp b o hc e) (λb o _ _ hc e _=>⟨o.slots,kp b o hc e⟩)
    (λb o _ e n=>n) (λb o hc e=>⟨o,kp b o hc e⟩) (λb ys e=>e) (λb o u e=>e) (λb ps e=>⟨#[],by rw[e];simp⟩) (λm hm=>?_) (λb u e=>?_) I.bare
   ·obtain⟨o,es,ep,ho,r⟩:=hm;exact⟨o,es,ep,kp _ o (λz=>(hf _ z).2.1 rfl) ho,r⟩
   ·have nc:∀c u,H c=some u->c∉[z,TI,TO,i1,i2]:=λc u q z=>by rw[(hf c z).1]at q;cases q
    refine(I.hok b u e).stay (λc v hc q=>kp c v ?_ q) (λc q=>q) λc ys q=>q;rcases hc with z|z
    ·rw[z];exact nc b u e
    ·exact nc c _ z
 self:=λ_ _ _ _ _ st h=>wpAny_pyIter_zip st.1 h
noncomputable def qF4(K:PySem.W.Frag)(ta:TA):L2.TI:=λσ H R=>ta σ H λvs H1=>∃a b,vs=[.ref a,.ref b]/\(∃xs,SqL K H1 a xs)/\(∃ys,SqL K H1 b ys)/\R (Itz K a b) H1
theorem qCG{X:Cx}{ea eb:Expr}{ta:TA}{p pos tpos:Pos}{elts:List Expr}{kk:Nat}(hg:L2.Gl X "zip")(hm:X.mg "zip"=none)(ha:PA X [ea,eb] ta)(h1:qX ea=true)(h2:qX eb=true):
  L2.PI X (.Tuple elts kk tpos) (.Call (.Name "zip" p) [ea,eb] [] pos) (qF4 X.K ta):=by
 intro pins s σ H R I h;refine Call_ (L2.ld_blt I hg hm PyProof.Rows.boot_zip (PyProof.Rows.callWith_type1 (L2.thn (ha pos pins s σ H _ I h) λus s1 ⟨vs,H1,I1,r1,q1⟩=>?_) (qG h1) (je (by simp[h2]))));obtain⟨a,b,e,⟨xs,hq1⟩,⟨ys,hq2⟩,q⟩:=q1;subst e;cases r1 with
 |cons r rr=>
  cases rr with
  |cons r' rr=>
   cases rr;cases r;cases r';obtain⟨its1,rv1,p1,_⟩:=I1.list hq1;obtain⟨its2,rv2,p2,_⟩:=I1.list hq2;have a1:a<s1.heap.objs.size:=by obtain⟨_,e,_⟩:=p1.isList;exact Heap.lt_size e
   have a2:b<s1.heap.objs.size:=by obtain⟨_,e,_⟩:=p2.isList;exact Heap.lt_size e
   refine call_zip_2 p1.isList p2.isList λh' hz hTI hTO hi1 hi2 _ hk=>?_;refine wpAny_pyIter_zip hz ?_;have I2:Inv X pins σ H1 { s1 with heap:=h' }:=I1.kept (t':=s1.toks) hk;refine⟨_,_,_,_,H1,rfl,I2,c7 _ _ _ _ _ a b (zipApart_new a1 a2),⟨hz,hTI,⟨_,_,hTO⟩,hi1,hi2⟩,λc hc=>?_,q⟩;have hge:s1.heap.objs.size<=c:=by
    simp only[List.mem_cons,wZ,or_false]at hc;rcases hc with rfl|rfl|rfl|rfl|rfl
    ·exact vI _ 4
    ·exact vI _ 2
    ·exact vI _ 3
    ·exact Nat.le_refl _
    ·exact vI _ 1
   exact I1.fpOk hge (I1.hok.fresh hge)
abbrev Tu(h:Heap)(T:Addr)(vs:Array Value):Prop:=h.get? T=some { cls:=.type "tuple",data:=.seq vs }
section
variable{P:Program}{w:World}{A:Around}{E:Value->Shared->Prop}{s:Shared}{z ti to i1 i2 i3 a b c:Addr}{f0:Value}{k1 k2 k3:Nat}{xs ys us:Array Value}{p q r:Value}
def Kp(z to i1 i2 i3:Addr)(h g:Heap):Prop:=g.objs.size=h.objs.size/\∀c o,c∉[z,to,i1,i2,i3]->h.get? c=some o->g.get? c=some o
theorem Kp.step{h g g':Heap}{d:Addr}(k:Kp z to i1 i2 i3 h g)(hd:d∈[z,to,i1,i2,i3])(e:Heap.SameBut d g g'):Kp z to i1 i2 i3 h g':=
 ⟨by rw[e.1,k.1],λc o hc ho=>e.extBut c o (λx=>hc (x ▸ hd)) (k.2 c o hc ho)⟩
end
noncomputable def zz(ti to:Addr):Obj:={ cls:=.type "zip",data:=.fields #[.none,.bool false,.bool false,.ref ti,.ref to] }
open L2 (PGs TG TGs Itl Itt M6)
section
variable (K:PySem.W.Frag)(G:List Addr)
noncomputable def tG(g:Tg):TG:=λv σc H Q=>∃φ h σ w σ',Rl K G φ h H/\rst φ σ σc/\rv φ w v/\store g w σ h=some σ'/\∀σc',rst φ σ' σc'->Q σc' H
noncomputable def tGs(is:List Nat):TGs:=λvs σc H Q=>∃φ σ ws σ',rst φ σ σc/\rvs φ ws vs/\ZL is ws σ=some σ'/\∀σc',rst φ σ' σc'->Q σc' H
end
section
variable{X:Cx}{G:List Addr}{F:Nat->List V->AH->RV}
theorem qCY{e:Expr}{t t':TG}(h:PG X e t)(w:∀v σ H Q,t' v σ H Q->t v σ H Q):PG X e t':=λpins s σ H v u Q I r q=>h pins s σ H v u Q I r (w v σ H Q q)
theorem i4{e:List Expr}{t t':TGs}(h:PGs X e t)(w:∀v σ H Q,t' v σ H Q->t v σ H Q):PGs X e t':=λpins s σ H v u Q I r q=>h pins s σ H v u Q I r (w v σ H Q q)
variable (X G) in
abbrev SG(e:Expr)(g:Tg):Prop:=PG X e (tG X.K G g)
theorem Q3{i:Nat}{x:Str}{pos:Pos}(hN:X.N.Nodup)(hi:X.N[i]?=some x)(hx:L2.Loc X.env.scope x)(hf:X.fn x=true\/X.env.scope.names.lookup x=some .local):SG X G (.Name x pos) (.name i):=by
 refine qCY (L2.pg_name hN hi hx hf) λv σc H Q q=>?_;obtain⟨φ,h,σ,w,σ',R,rs,r,e,k⟩:=q;unfold store at e;cases e;exact k _ (zW (R:=ropt φ) (show ropt φ (some w) (some v) from⟨v,rfl,r⟩) i rs)
theorem qAL:PGs X [] (tGs []):=by
 refine i4 L2.pgs_nil λvs σc H Q q=>?_;obtain⟨φ,σ,ws,σ',rs,r,e,k⟩:=q;cases ws with
 |nil=>
  cases r;cases e;exact⟨rfl,k _ rs⟩
 |cons _ _=>cases e
theorem a5{i:Nat}{is:List Nat}{x:Str}{pos:Pos}{es:List Expr}(hN:X.N.Nodup)(hi:X.N[i]?=some x)(hx:L2.Loc X.env.scope x)(hf:X.fn x=true\/X.env.scope.names.lookup x=some .local)(hs:PGs X es (tGs is)):
  PGs X (.Name x pos::es) (tGs (i::is)):=by
 refine i4 (L2.pgs_cons (L2.pg_name hN hi hx hf) hs rfl) λvs σc H Q q=>?_;obtain⟨φ,σ,ws,σ',rs,r,e,k⟩:=q;cases ws with
 |nil=>cases e
 |cons w ws=>
  cases r with
  |cons r1 rr=>exact⟨_,_,rfl,φ,_,ws,σ',zW (R:=ropt φ) (show ropt φ (some w) (some _) from⟨_,rfl,r1⟩) i rs,rr,e,k⟩
theorem ZV:∀{is:List Nat}{xs:List V}{σ σ':St},ZL is xs σ=some σ'->xs.length=is.length
 | [],[],_,_,_=>rfl
 | [],_::_,_,_,e=>by cases e
 |_::_,[],_,_,e=>by cases e
 |i::is,x::xs,σ,σ',e=>by
  have:=ZV (show ZL is xs _=some σ' from e);simp[this]
theorem qCb{is:List Nat}{es:List Expr}{k:Nat}{pos:Pos}(hc:X.calm=true)(h:PGs X es (tGs is))(hn:(assignEach es X.env).length=is.length)(hst:(assignEach es X.env).findIdx? (·.1)=none):SG X G (.Tuple es k pos) (.tup is):=by
 refine qCY (L2.pg_tup hc h hn hst) λv σc H Q q=>?_;obtain⟨φ,h,σ,w,σ',R,rs,r,e,k⟩:=q;cases w with
 |ref a=>
  unfold store at e;dsimp only at e;split at e
  ·rename_i xs ex;obtain⟨p,zs,hp,hs,rz⟩:=R.tup ex;obtain⟨q,rfl,hq⟩:=qL r;rw[hp]at hq;cases hq;exact⟨_,zs,rfl,hs,by rw[<-Paired.length rz];exact ZV e,φ,σ,xs,σ',rs,rz,e,k⟩
  ·cases e
 |_=>cases e
def IsJ(K:PySem.W.Frag)(φ:List Addr):Src->It->Prop
 | .list p,J=>∃a,φ[p]?=some a/\J=Itl K a
 | .tupl p,J=>∃a,φ[p]?=some a/\J=Itt K a
 | .rng lo n,J=>J=L2.Itr lo n
 | .zip p q,J=>∃a b,φ[p]?=some a/\φ[q]?=some b/\J=Itz K a b
theorem IsJ.mono{K:PySem.W.Frag}{φ φ':List Addr}(x:Ext φ φ'):∀{s:Src}{J:It},IsJ K φ s J->IsJ K φ' s J
 | .list _,_,⟨a,h,e⟩=>⟨a,x.get h,e⟩
 | .tupl _,_,⟨a,h,e⟩=>⟨a,x.get h,e⟩
 | .rng _ _,_,e=>e
 | .zip _ _,_,⟨a,b,h,g,e⟩=>⟨a,b,x.get h,x.get g,e⟩
section
variable{K:PySem.W.Frag}{φ:List Addr}{h h1:AH}{H H':Hp}{s:Src}{J:It}{i:Nat}{x v:V}
theorem IsJ.stop(j:IsJ K φ s J)(R:Rl K G φ h H)(e:jk h i s=true):J.stop i H:=by
 cases s with
 |list p=>
  obtain⟨a,ha,rfl⟩:=j;unfold jk at e;dsimp only at e;split at e
  ·rename_i xs ex;obtain⟨q,zs,hq,hs,rz⟩:=R.lst ex;rw[ha]at hq;cases hq;exact⟨zs,hs,by rw[<-Paired.length rz];exact vZ e⟩
  ·cases e
 |tupl p=>
  obtain⟨a,ha,rfl⟩:=j;unfold jk at e;dsimp only at e;split at e
  ·rename_i xs ex;obtain⟨q,zs,hq,hs,rz⟩:=R.tup ex;rw[ha]at hq;cases hq;exact⟨zs,hs,by rw[<-Paired.length rz];exact vZ e⟩
  ·cases e
 |rng lo n=>
  cases j;show n<=i;exact vZ e
 |zip p q=>
  obtain⟨a,b,ha,hb,rfl⟩:=j;unfold jk at e;dsimp only at e;split at e
  ·rename_i xs ys ex ey;obtain⟨a',zs,hq,hs,rz⟩:=R.lst ex;obtain⟨b',ws,hq',hs',rz'⟩:=R.lst ey;rw[ha]at hq;cases hq;rw[hb]at hq';cases hq';exact⟨zs,ws,hs,hs',by rw[<-Paired.length rz,<-Paired.length rz'];exact vZ e⟩
  ·cases e
theorem IsJ.go(j:IsJ K φ s J)(R:Rl K G φ h H)(e:qq h i s=some (x,h1)):J.go i H:=by
 cases s with
 |list p=>
  obtain⟨a,ha,rfl⟩:=j;unfold qq at e;dsimp only at e;split at e
  ·rename_i xs ex;obtain⟨y,ey,e2⟩:=Option.map_eq_some_iff.mp e;obtain⟨q,zs,hq,hs,rz⟩:=R.lst ex;rw[ha]at hq;cases hq;obtain⟨z,hz,_⟩:=qK rz ey;exact⟨zs,z,hs,hz⟩
  ·cases e
 |tupl p=>
  obtain⟨a,ha,rfl⟩:=j;unfold qq at e;dsimp only at e;split at e
  ·rename_i xs ex;obtain⟨y,ey,e2⟩:=Option.map_eq_some_iff.mp e;obtain⟨q,zs,hq,hs,rz⟩:=R.tup ex;rw[ha]at hq;cases hq;obtain⟨z,hz,_⟩:=qK rz ey;exact⟨zs,z,hs,hz⟩
  ·cases e
 |rng lo n=>
  cases j;unfold qq at e;dsimp only at e;split at e
  ·rename_i hl;exact hl
  ·cases e
 |zip p q=>
  obtain⟨a,b,ha,hb,rfl⟩:=j;unfold qq at e;dsimp only at e;split at e
  ·rename_i xs ys ex ey;split at e
   ·rename_i u w eu ew;obtain⟨a',zs,hq,hs,rz⟩:=R.lst ex;obtain⟨b',ws,hq',hs',rz'⟩:=R.lst ey;rw[ha]at hq;cases hq;rw[hb]at hq';cases hq';obtain⟨z,hz,_⟩:=qK rz eu;obtain⟨z',hz',_⟩:=qK rz' ew;exact⟨zs,ws,z,z',hs,hs',hz,hz'⟩
   ·cases e
  ·cases e
theorem IsJ.yld(j:IsJ K φ s J)(R:Rl K G φ h H)(e:qq h i s=some (x,h1))(y:J.yld i H v H'):∃φ',Ext φ φ'/\Rl K G φ' h1 H'/\rv φ' x v:=by
 cases s with
 |list p=>
  obtain⟨a,ha,rfl⟩:=j;unfold qq at e;dsimp only at e;split at e
  ·rename_i xs ex;obtain⟨y',ey,e2⟩:=Option.map_eq_some_iff.mp e;cases e2;obtain⟨q,zs,hq,hs,rz⟩:=R.lst ex;rw[ha]at hq;cases hq;obtain⟨z,hz,rz'⟩:=qK rz ey;obtain⟨rfl,k⟩:=y;have:=k zs hs;rw[hz]at this;cases this;exact⟨φ,.refl _,R,rz'⟩
  ·cases e
 |tupl p=>
  obtain⟨a,ha,rfl⟩:=j;unfold qq at e;dsimp only at e;split at e
  ·rename_i xs ex;obtain⟨y',ey,e2⟩:=Option.map_eq_some_iff.mp e;cases e2;obtain⟨q,zs,hq,hs,rz⟩:=R.tup ex;rw[ha]at hq;cases hq;obtain⟨z,hz,rz'⟩:=qK rz ey;obtain⟨rfl,k⟩:=y;have:=k zs hs;rw[hz]at this;cases this;exact⟨φ,.refl _,R,rz'⟩
  ·cases e
 |rng lo n=>
  cases j;unfold qq at e;dsimp only at e;split at e
  ·cases e;obtain⟨rfl,rfl⟩:=y;exact⟨φ,.refl _,R,rfl⟩
  ·cases e
 |zip p q=>
  obtain⟨a,b,ha,hb,rfl⟩:=j;unfold qq at e;dsimp only at e;split at e
  ·rename_i xs ys ex ey;split at e
   ·rename_i u w eu ew;cases e;obtain⟨a',zs,hq,hs,rz⟩:=R.lst ex;obtain⟨b',ws,hq',hs',rz'⟩:=R.lst ey;rw[ha]at hq;cases hq;rw[hb]at hq';cases hq';obtain⟨z,hz,r1⟩:=qK rz eu;obtain⟨z',hz',r2⟩:=qK rz' ew;obtain⟨p',x',y',hn,rfl,rfl,k1,k2⟩:=y;have t1:=k1 zs hs;have t2:=k2 ws hs';rw[hz]at t1;cases t1;rw[hz']at t2;cases t2;exact⟨φ++[p'],⟨[p'],rfl⟩,R.newT hn (.cons r1 (.cons r2 .nil)),R.lastRef⟩
   ·cases e
  ·cases e
end
variable (G F) in
noncomputable def tI(K:PySem.W.Frag)(it:Itr):L2.TI:=λσc H R=>∃φ h σ s h',Rl K G φ h H/\rst φ σ σc/\evi F it σ h=.ok (s,h')/\∀φ' H' J,Ext φ φ'->Rl K G φ' h' H'->IsJ K φ' s J->R J H'
variable (X G F) in
abbrev SI(tg iter:Expr)(it:Itr):Prop:=L2.PI X tg iter (tI G F X.K it)
theorem X2{tg e:Expr}{t t':L2.TI}(h:L2.PI X tg e t)(w:∀σ H Q,t' σ H Q->t σ H Q):L2.PI X tg e t':=λpins s σ H Q I q=>h pins s σ H Q I (w σ H Q q)
variable{a b:E}{ea eb tg:Expr}{pos p:Pos}
noncomputable def qFR(K:PySem.W.Frag)(tl:TE):L2.TI:=λσ H R=>tl σ H λx H1=>∃a,x=.ref a/\(((∃xs,SqL K H1 a xs)/\R (Itl K a) H1)\/((∃xs,SqT K H1 a xs)/\R (Itt K a) H1))
theorem qCD{l:Expr}{tl:TE}(hl:PE X l tl):L2.PI X tg l (qFR X.K tl):=by
 intro pins s σ H R I h;refine L2.thn (hl pins s σ H _ I h) λv s1 ⟨x,H1,I1,r1,q1⟩=>?_;obtain⟨a,e,q⟩:=q1;subst e;cases r1;rcases q with⟨⟨xs,hq⟩,q⟩|⟨⟨xs,hq⟩,q⟩
 ·obtain⟨its,rv,p,hz⟩:=I1.list hq;refine wpAny_pyIter_list p.isList ?_;refine⟨s1.heap.objs.size,[s1.heap.objs.size],_,_,H1,rfl,I1.kept (t':=s1.toks) λb o e=>Heap.get?_push_of_some _ e,L2.turn_list a _,⟨_,Heap.get?_push_size _ rfl,rfl,rfl⟩,λb hb=>?_,q⟩;have e:b=s1.heap.objs.size:=by simpa using hb
  subst e;exact I1.fpOk (Nat.le_refl _) (I1.hok.fresh (Nat.le_refl _))
 ·obtain⟨its,rv,p,hz⟩:=I1.tuple hq;refine wpAny_pyIter_tuple (show s1.heap.IsTuple a its.toArray from p) ?_;refine⟨s1.heap.objs.size,[s1.heap.objs.size],_,_,H1,rfl,I1.kept (t':=s1.toks) λb o e=>Heap.get?_push_of_some _ e,L2.turn_tuple a _,⟨_,Heap.get?_push_size _ rfl,rfl,rfl⟩,λb hb=>?_,q⟩;have e:b=s1.heap.objs.size:=by simpa using hb
  subst e;exact I1.fpOk (Nat.le_refl _) (I1.hok.fresh (Nat.le_refl _))
theorem Q6(ha:SE X G F ea a):SI X G F tg ea (.list a):=by
 refine X2 (qCD ha) λσc H Q q=>?_;obtain⟨φ,h,σ,s,h',R,rs,e,k⟩:=q;unfold evi at e;obtain⟨⟨x,h1⟩,e1,e⟩:=Res.bind_inv e;refine⟨φ,h,σ,x,h1,R,rs,e1,λφ1 H1 w x1 R1 r1=>?_⟩;cases x with
 |ref p=>
  dsimp only at e;cases ey:h1[p]? with
  |none=>rw[ey]at e;cases e
  |some o=>
   cases o with
   |lst fz ys=>
    rw[ey]at e;cases e;obtain⟨q,zs,hq,hs,rz⟩:=R1.lst (i:=p) (xs:=ys) (by unfold qQ;rw[ey]);obtain⟨q',rfl,hq'⟩:=qL r1;rw[hq]at hq';cases hq';exact⟨_,rfl,.inl ⟨⟨zs,hs⟩,k φ1 H1 _ x1 R1 ⟨_,hq,rfl⟩⟩⟩
   |tup ys=>
    rw[ey]at e;cases e;obtain⟨q,zs,hq,hs,rz⟩:=R1.tup (i:=p) (xs:=ys) (by unfold qU;rw[ey]);obtain⟨q',rfl,hq'⟩:=qL r1;rw[hq]at hq';cases hq';exact⟨_,rfl,.inr ⟨⟨zs,hs⟩,k φ1 H1 _ x1 R1 ⟨_,hq,rfl⟩⟩⟩
   |ob ks=>rw[ey]at e;cases e
 |_=>cases e
theorem qAf(hg:L2.Gl X "range")(hm:X.mg "range"=none)(hn:qX ea=true)(ha:SE X G F ea a):SI X G F tg (.Call (.Name "range" p) [ea] [] pos) (.rng1 a):=by
 refine X2 (L2.pi_range1 hg hm (L2.pa_cons ha L2.pa_nil (qG hn)) (qG hn)) λσc H Q q=>?_;obtain⟨φ,h,σ,s,h',R,rs,e,k⟩:=q;unfold evi at e;obtain⟨⟨x,h1⟩,e1,e⟩:=Res.bind_inv e;refine⟨φ,h,σ,x,h1,R,rs,e1,λφ1 H1 w x1 R1 r1=>?_⟩;cases x with
 |int j=>
  dsimp only at e;split at e
  ·rename_i hj;cases e;cases qB r1;exact⟨j,rfl,by omega,by omega,k φ1 H1 _ x1 R1 rfl⟩
  ·cases e
 |_=>cases e
theorem v6(hg:L2.Gl X "range")(hm:X.mg "range"=none)(hn:qX ea=true)(hn2:qX eb=true)(ha:SE X G F ea a)(hb:SE X G F eb b):SI X G F tg (.Call (.Name "range" p) [ea,eb] [] pos) (.rng2 a b):=by
 refine X2 (L2.pi_range2 hg hm (L2.pa_cons ha (L2.pa_cons hb L2.pa_nil (qG hn2)) (qG hn)) (by rw[qG hn,qG hn2];rfl) (qG hn2)) λσc H Q q=>?_;obtain⟨φ,h,σ,s,h',R,rs,e,k⟩:=q;unfold evi at e;obtain⟨⟨x,h1⟩,e1,e⟩:=Res.bind_inv e;obtain⟨⟨y,h2⟩,e2,e⟩:=Res.bind_inv e;refine jn R rs e1 e2 λφ2 H2 xc yc x2 R2 r1 r2=>?_;cases x with
 |int i=>
  cases y with
  |int j=>
   dsimp only at e;split at e
   ·rename_i hj;cases e;cases qB r1;cases qB r2;exact⟨i,j,rfl,⟨by omega,by omega,by omega,by omega⟩,k φ2 H2 _ x2 R2 rfl⟩
   ·cases e
  |_=>cases e
 |_=>cases e
theorem qBX{elts:List Expr}{kk:Nat}{tpos:Pos}(hg:L2.Gl X "zip")(hm:X.mg "zip"=none)(hn:qX ea=true)(hn2:qX eb=true)(ha:SE X G F ea a)(hb:SE X G F eb b):
  SI X G F (.Tuple elts kk tpos) (.Call (.Name "zip" p) [ea,eb] [] pos) (.zip a b):=by
 refine X2 (qCG hg hm (L2.pa_cons ha (L2.pa_cons hb L2.pa_nil (qG hn2)) (qG hn)) hn hn2) λσc H Q q=>?_;obtain⟨φ,h,σ,s,h',R,rs,e,k⟩:=q;unfold evi at e;obtain⟨⟨x,h1⟩,e1,e⟩:=Res.bind_inv e;obtain⟨⟨y,h2⟩,e2,e⟩:=Res.bind_inv e;refine jn R rs e1 e2 λφ2 H2 xc yc x2 R2 r1 r2=>?_;cases x with
 |ref i=>
  cases y with
  |ref j=>
   dsimp only at e;split at e
   ·rename_i xs ys ex ey;cases e;obtain⟨a',zs,hq,hs,rz⟩:=R2.lst ex;obtain⟨b',ws,hq',hs',rz'⟩:=R2.lst ey;obtain⟨a2,rfl,ha2⟩:=qL r1;obtain⟨b2,rfl,hb2⟩:=qL r2;rw[hq]at ha2;cases ha2;rw[hq']at hb2;cases hb2;exact⟨_,_,rfl,⟨zs,hs⟩,⟨ws,hs'⟩,k φ2 H2 _ x2 R2 ⟨_,_,hq,hq',rfl⟩⟩
   ·cases e
  |_=>cases e
 |_=>cases e
end
section
variable{X:Cx}{G:List Addr}{F:Nat->List V->AH->RV}
theorem qCC{φ:List Addr}:∀{v w w':V},rv φ v w->rv φ v w'->w=w'
 | .ref _,w,w',h,g=>by
  obtain⟨a,e1,h1⟩:=qL h;obtain⟨b,e2,g1⟩:=qL g;rw[h1]at g1;cases g1;rw[e1,e2]
 | .non,_,_,h,g=>by rw[qj h,qj g]
 | .bl _,_,_,h,g=>by rw[zB h,zB g]
 | .int _,_,_,h,g=>by rw[qB h,qB g]
 | .str _,_,_,h,g=>by rw[zG h,zG g]
 | .byt _,w,_,h,_=>by cases w<;>exact False.elim h
 | .flt _,w,_,h,_=>by cases w<;>exact False.elim h
 | .ty _,w,_,h,_=>by cases w<;>exact False.elim h
theorem Jr{φ:List Addr}:∀{vs ws us:List V},rvs φ vs ws->rvs φ vs us->ws=us
 |_,_,_,.nil,.nil=>rfl
 |_,_,_,.cons r t,.cons r' t'=>by rw[qCC r r',Jr t t']
theorem Qj{φ:List Addr}{σ σc:St}(r:rst φ σ σc):∀src,rst φ (L2.inner src σ) (L2.inner src σc)
 | []=>.nil
 |none::src=>.cons trivial (Qj r src)
 |some j::src=>by
  refine .cons ?_ (Qj r src);show ropt φ (σ[j]?).join (σc[j]?).join;cases e:σ[j]? with
  |none=>exact trivial
  |some o=>
   cases o with
   |none=>exact trivial
   |some v=>
    obtain⟨oc,ec,r'⟩:=qK r e;obtain⟨w,rfl,r'⟩:=r';rw[ec];exact⟨w,rfl,r'⟩
variable (X G F) in
abbrev SC(ifs:List Expr)(c:Es):Prop:=L2.PTs X ifs (tB X.K G (evc F c))
theorem qBo:SC X G F [] .nil:=by
 intro pins s σ H Q I q;obtain⟨φ,h,σa,b,h',R,rs,e,k⟩:=q;unfold evc at e;cases e;exact L2.pts_nil pins s σ H Q I (k φ H (.refl _) R)
theorem qB2{c:Expr}{a:E}(hc:ST X G F c a):SC X G F [c] (.cons a .nil):=by
 intro pins s σ H Q I q;obtain⟨φ,h,σa,b,h',R,rs,e,k⟩:=q;unfold evc at e;exact L2.pts_one hc pins s σ H Q I ⟨φ,h,σa,b,h',R,rs,e,k⟩
theorem V4{it:Itr}{src:List (Option Nat)}{g:Tg}{c:Es}{e:E}{σc:St}{H:Hp}{Q:VK}(q:tE X.K G F (.comp it src g c e) σc H Q):
  L2.tComp (tI G F X.K it) src (tG X.K G g) (tB X.K G (evc F c)) (tE X.K G F e) σc H Q:=by
 obtain⟨φ,h,σ,v,h',R,rs,ee,k⟩:=q;unfold ev at ee;obtain⟨⟨s,h1⟩,e1,ee⟩:=Res.bind_inv ee;refine⟨φ,h,σ,s,h1,R,rs,e1,λφ1 H1 J x1 R1 j1=>?_⟩;dsimp only at ee;split at ee
 ·rename_i n hn;intro D hD;have R2:Rl X.K G (φ1++[D]) (h1++[.lst false []]) (upd H1 D (.lst [])):=R1.newL hD .nil;have hDφ:(φ1++[D])[h1.length]?=some D:=R1.lastRef;refine⟨λi m ys σ' H'=>∃φ' h2 σa ya,Ext (φ1++[D]) φ'/\Rl X.K G φ' h2 H'/\rst φ' σa σ'/\rvs φ' ya ys/\h2[h1.length]?=some (.lst false ya)/\QI s g (evc F c) (ev F e) h1.length m i ya σa h2=.ok (v,h'),
   ⟨n,φ1++[D],_,_,[],.refl _,R2,Qj (rst.mono (x1.trans ⟨[D],rfl⟩) rs) src,.nil,by simp,ee⟩,?_⟩
  rintro i m ys σ' H' ⟨φ',h2,σa,ya,x2,Ra,rsa,rya,hya,ec⟩ hys;have jj:IsJ X.K φ' s J:=j1.mono (Ext.trans ⟨[D],rfl⟩ x2);have hDφ':=x2.get hDφ;cases m with
  |zero=>
   unfold QI at ec;split at ec
   ·rename_i hst;cases ec;exact .inl ⟨jj.stop Ra hst,k φ' H' _ ((x1.trans ⟨[D],rfl⟩).trans x2) Ra hDφ'⟩
   ·cases ec
  |succ m=>
   unfold QI at ec;split at ec
   ·rename_i x h3 hy;split at ec
    ·rename_i σ3 hst;refine .inr ⟨jj.go Ra hy,λxv H2 hyl=>?_⟩;obtain⟨φ3,x3,R3,rx⟩:=jj.yld Ra hy hyl;refine⟨φ3,h3,σa,x,σ3,R3,rst.mono x3 rsa,rx,hst,λσc3 rs3=>?_⟩;obtain⟨⟨t,h4⟩,e4,ec⟩:=Res.bind_inv ec;refine⟨φ3,h3,σ3,t,h4,R3,rs3,e4,λφ4 H4 x4 R4=>?_⟩;dsimp only at ec;cases t with
     |true=>
      rw[if_pos rfl]at ec ⊢;obtain⟨⟨y,h5⟩,e5,ec⟩:=Res.bind_inv ec;refine⟨φ4,h4,σ3,y,h5,R4,rst.mono x4 rs3,e5,λφ5 H5 yc x5 R5 r5=>?_⟩;dsimp only at ec;split at ec
      ·rename_i hc5;have xx:Ext φ' φ5:=x3.trans (x4.trans x5);have hD5:=xx.get hDφ';obtain⟨zs,hz,rz⟩:=R5.obj _ _ D hc5.1 hD5;have ez:zs=ys:=Jr rz (rvs.mono xx rya);subst ez;refine⟨hz,by rw[<-Paired.length rz];exact wk hc5.2 l0,m,Nat.lt_succ_self _,φ5,_,σ3,_,x2.trans xx,R5.set hc5.1 hD5 (qO rz (.cons r5 .nil)),rst.mono (x4.trans x5) rs3,qO rz (.cons r5 .nil),?_,ec⟩;rw[List.getElem?_set_self (List.getElem?_eq_some_iff.mp hc5.1).1]
      ·cases ec
     |false=>
      rw[if_neg (by decide)]at ec ⊢;split at ec
      ·rename_i hc4;have xx:Ext φ' φ4:=x3.trans x4;have hD4:=xx.get hDφ';obtain⟨zs,hz,rz⟩:=R4.obj _ _ D hc4 hD4;have ez:zs=ys:=Jr rz (rvs.mono xx rya);subst ez;exact⟨hz,m,Nat.lt_succ_self _,φ4,_,σ3,_,x2.trans xx,R4,rst.mono x4 rs3,rz,hc4,ec⟩
      ·cases ec
    ·cases ec
   ·cases ec
 ·cases ee
end
section
variable{X:Cx}{G:List Addr}{F:Nat->List V->AH->RV}{a b c:E}{ea eb ec tg:Expr}{pos:Pos}
theorem T2{iter elt:Expr}{ifs:List Expr}{scope:Scope}{N:List Str}{it:Itr}{src:List (Option Nat)}{g:Tg}{cs:Es}{e:E}(hc:X.calm=true)(hi:SI X G F tg iter it)(S:L2.CompScope X scope N src)
  (hg:∀C fp s H,SG (L2.cxComp X scope C fp s H N) G tg g) (ht:∀C fp s H,SC (L2.cxComp X scope C fp s H N) G F ifs cs) (he:∀C fp s H,SE (L2.cxComp X scope C fp s H N) G F elt e)
  (hs:∀x,foldedSetIterable iter X.env x=pure x):SE X G F (.ListComp elt [⟨tg,iter,ifs,0⟩] scope pos) (.comp it src g cs e):=
 qi (L2.pe_comp hc hi S hg ht he hs) λ_ _ _=>V4
def Post(K:PySem.W.Frag)(G:List Addr)(D:M6)(φ:List Addr)(o:Out)(h':AH):Prop:=∀φ' H',Ext φ φ'->Rl K G φ' h' H'->match o with
 | .nx σ=>∀σc,rst φ' σ σc->D.nx σc H'
 | .rt v=>∀w,rv φ' v w->D.rt w H'
 | .bk σ=>∀σc,rst φ' σ σc->D.bk σc H'
 | .ct σ=>∀σc,rst φ' σ σc->D.ct σc H'
theorem Post.mono{K:PySem.W.Frag}{D:M6}{φ φ1:List Addr}{o:Out}{h':AH}(x:Ext φ φ1)(p:Post K G D φ o h'):Post K G D φ1 o h':=λφ' H' x' R=>p φ' H' (x.trans x') R
noncomputable def tS(K:PySem.W.Frag)(G:List Addr)(r:St->AH->RS):TS:=λD σc H=>∃φ h σ o h',Rl K G φ h H/\rst φ σ σc/\r σ h=.ok (o,h')/\Post K G D φ o h'
variable (X G F) in
abbrev SS(st:Stmt)(s:S):Prop:=PS X st (tS X.K G (ex F s))
variable (X G F) in
abbrev SSs(st:List Stmt)(s:Ss):Prop:=PSs X st (tS X.K G (exs F s))
theorem JH{e:Stmt}{t t':TS}(h:PS X e t)(w:∀D σ H,t' D σ H->t D σ H):PS X e t':=λpins s σ H D I q=>h pins s σ H D I (w D σ H q)
theorem l9{e:List Stmt}{t t':TS}(h:PSs X e t)(w:∀D σ H,t' D σ H->t D σ H):PSs X e t':=λpins s σ H D I q=>h pins s σ H D I (w D σ H q)
theorem qh{st:Stmt}:SS X G F st .stop:=by
 intro pins s σ H D I q;obtain⟨φ,h,σa,o,h',R,rs,e,k⟩:=q;unfold ex at e;cases e
noncomputable def QU:Expr->Bool
 | .ListComp ..=>false
 | .SetComp ..=>false
 | .DictComp ..=>false
 |_=>true
theorem Qv{e:Expr}{t:Option Expr}{l:Nat}{env:Env}(h:QU e=true):swapsWith e t l env=pure false:=by
 cases e<;>first|rfl|cases h
theorem ZD{e t:Expr}{l:Nat}{env:Env}(h:QU e=true):swapsWithSole [t] e l env=pure false:=Qv h
theorem qAH{K:PySem.W.Frag}{σ:St}{H:Hp}{Q Q':VK}(q:tE K G F a σ H Q)(w:∀v H,Q v H->Q' v H):tE K G F a σ H Q':=by
 obtain⟨φ,h,σa,v,h',R,rs,e,k⟩:=q;exact⟨φ,h,σa,v,h',R,rs,e,λφ' H' u x' R' r'=>w u H' (k φ' H' u x' R' r')⟩
theorem U4{g:Tg}{D:M6}{σc:St}{H:Hp}(q:tS X.K G (ex F (.asg g a)) D σc H):L2.tAsg (tE X.K G F a) (tG X.K G g) D σc H:=by
 obtain⟨φ,h,σ,o,h',R,rs,e,k⟩:=q;unfold ex at e;obtain⟨⟨x,h1⟩,e1,e⟩:=Res.bind_inv e;dsimp only at e;split at e
 ·rename_i σ1 es;cases e;exact⟨φ,h,σ,x,_,R,rs,e1,λφ1 H1 w x1 R1 r1=>⟨φ1,_,σ,x,σ1,R1,rst.mono x1 rs,r1,es,λσc' rs'=>k φ1 H1 x1 R1 σc' rs'⟩⟩
 ·cases e
theorem qAO{iter elt:Expr}{ifs:List Expr}{scope:Scope}{N:List Str}{it:Itr}{src:List (Option Nat)}{g:Tg}{cs:Es}{e:E}{i:Nat}{n:Str}{p cpos:Pos}(hc:X.calm=true)(hi:SI X G F tg iter it)(S:L2.CompScope X scope N src)
  (hg:∀C fp s H,SG (L2.cxComp X scope C fp s H N) G tg g) (ht:∀C fp s H,SC (L2.cxComp X scope C fp s H N) G F ifs cs) (he:∀C fp s H,SE (L2.cxComp X scope C fp s H N) G F elt e)
  (hs:∀x,foldedSetIterable iter X.env x=pure x) (hN:X.N.Nodup) (hn:X.N[i]?=some n) (hx:L2.Loc X.env.scope n) (hf:X.fn n=true\/X.env.scope.names.lookup n=some .local):
  SS X G F (.Assign [.Name n p] (.ListComp elt [⟨tg,iter,ifs,0⟩] scope cpos) pos) (.asg (.name i) (.comp it src g cs e)):=by
 have hsw:swapsWith (.ListComp elt [⟨tg,iter,ifs,0⟩] scope cpos) (some (.Name n p)) pos.line X.env=pure (X.env.blockKind==.function&&X.env.kindOf n==some .local&&p.line==(Expr.ListComp elt [⟨tg,iter,ifs,0⟩] scope cpos).pos.line
   && !(scope.names.any λ(m,k)=>m==n&&(k==.local||k==.cell))):=rfl
 generalize hb:(X.env.blockKind==.function&&X.env.kindOf n==some .local&&p.line==(Expr.ListComp elt [⟨tg,iter,ifs,0⟩] scope cpos).pos.line
   && !(scope.names.any λ(m,k)=>m==n&&(k==.local||k==.cell)))=bb at hsw
 cases bb with
 |true=>
  have hl:X.env.scope.names.lookup n=some .local:=by
   simp only[Bool.and_eq_true]at hb;have z:X.env.kindOf n=some .local:=by simpa using hb.1.1.2
   exact z
  refine JH (L2.ps_setcomp (i:=i) (g:=tG X.K G g) (tc:=tB X.K G (evc F cs)) (te:=tE X.K G F e) hc hi S hg ht he hsw hN hn hl hs) λD σc H q=>?_;refine V4 (qAH (U4 q) λv H1 z=>?_);obtain⟨φ,h,σ,w,σ',R,rs,r,es,k⟩:=z;unfold store at es;cases es;exact k _ (zW (R:=ropt φ) (show ropt φ (some w) (some v) from⟨v,rfl,r⟩) i rs)
 |false=>exact JH (L2.ps_asg (T2 hc hi S hg ht he hs) (Q3 hN hn hx hf) hsw rfl rfl) λ_ _ _=>U4
noncomputable def qC0:L2.TSet:=λo i v H Q=>L2.rSetL o i v H Q\/∃p H',o=.ref p/\L2.DPut H p i v H'/\Q H'
theorem qAi(hu:X.A.units+8<cLine):L2.PSet X qC0:=by
 intro pins s σ H o i v ov iv u Q I ro ri rv h;rcases h with h|⟨p,H',rfl,g,q⟩
 ·exact L2.set_list pins s σ H o i v ov iv u Q I ro ri rv h
 ·cases ro;exact L2.d_setItem (by omega) I g ri rv λs' I'=>⟨H',I',q⟩
theorem qB7(hu:X.A.units+8<cLine){eo ei:Expr}{o i:E}{p:Pos}(ho:SE X G F eo o)(hi:SE X G F ei i)(ha:SE X G F ea a)(hc:QU ea=true)(hsl:Qr ei=true):SS X G F (.Assign [.Subscript eo ei p] ea pos) (.put o i a):=by
 refine JH (L2.ps_asg ha (L2.pg_sub ho hi (qAi hu) (λv=>by cases ei<;>first|rfl|cases hsl)) (ZD hc) (by cases ea<;>rfl) rfl) λD σc H q=>?_;obtain⟨φ,h,σ,out,h',R,rs,e,k⟩:=q;unfold ex at e;obtain⟨⟨x,h1⟩,e1,e⟩:=Res.bind_inv e;obtain⟨⟨p1,h2⟩,e2,e⟩:=Res.bind_inv e;obtain⟨⟨k1,h3⟩,e3,e⟩:=Res.bind_inv e;refine⟨φ,h,σ,x,h1,R,rs,e1,λφ1 H1 w x1 R1 r1=>?_⟩;refine⟨φ1,h1,σ,p1,h2,R1,rst.mono x1 rs,e2,λφ2 H2 w2 x2 R2 r2=>?_⟩;refine⟨φ2,h2,σ,k1,h3,R2,rst.mono (x1.trans x2) rs,e3,λφ3 H3 w3 x3 R3 r3=>?_⟩;cases p1 with
 |ref q=>
  cases k1 with
  |int j=>
   dsimp only at e;split at e
   ·rename_i xs ex1;split at e
    ·rename_i jj ej;cases e;obtain⟨q1,a',zs,ha',hH,rz⟩:=R3.mut ex1;obtain⟨a2,rfl,ha2⟩:=qL (rv.mono x3 r2);rw[ha']at ha2;cases ha2;cases qB r3;refine .inl ⟨_,zs,j,jj,rfl,rfl,hH,by rw[<-Paired.length rz];exact ej,?_⟩;have xx:Ext φ φ3:=x1.trans (x2.trans x3);exact k φ3 _ xx (R3.set q1 ha' (zW (rv.mono (x2.trans x3) r1) jj rz)) σc (rst.mono xx rs)
    ·cases e
   ·split at e
    ·rename_i kvs ed;split at e
     ·rename_i hf;cases e;obtain⟨a',ea,eh,hH⟩:=R3.dct ed;obtain⟨a2,rfl,ha2⟩:=qL (rv.mono x3 r2);rw[ea]at ha2;cases ha2;cases qB r3;have hl:(kvs.map kk).length<sizeLine:=by rw[wR];exact wB hf.2 QD
      have xx:Ext φ φ3:=x1.trans (x2.trans x3);have fw:=B6 hf.1 r1;subst fw;refine .inr ⟨_,_,rfl,L2.DPut.k (k:=.inl j) hH hl,?_⟩;rw[v8];exact k φ3 _ xx (R3.write rfl rfl eh ea qF) σc (rst.mono xx rs)
     ·cases e
    ·cases e
  |_=>cases e
 |_=>cases e
theorem qAS(ha:SE X G F ea a)(hc:QU ea=true):SS X G F (.Expr ea pos) (.expr a):=by
 refine JH (L2.ps_expr ha (Qv hc)) λD σc H q=>?_;obtain⟨φ,h,σ,out,h',R,rs,e,k⟩:=q;unfold ex at e;obtain⟨⟨x,h1⟩,e1,e⟩:=Res.bind_inv e;cases e;exact⟨φ,h,σ,x,_,R,rs,e1,λφ1 H1 w x1 R1 r1=>k φ1 H1 x1 R1 σc (rst.mono x1 rs)⟩
theorem qBM(ha:SE X G F ea a):SS X G F (.Return (some ea) pos) (.ret a):=by
 refine JH (L2.ps_ret ha) λD σc H q=>?_;obtain⟨φ,h,σ,out,h',R,rs,e,k⟩:=q;unfold ex at e;obtain⟨⟨x,h1⟩,e1,e⟩:=Res.bind_inv e;cases e;exact⟨φ,h,σ,x,_,R,rs,e1,λφ1 H1 w x1 R1 r1=>k φ1 H1 x1 R1 w r1⟩
theorem qAl:SSs X G F [] .nil:=by
 refine l9 L2.pss_nil λD σc H q=>?_;obtain⟨φ,h,σ,out,h',R,rs,e,k⟩:=q;unfold exs at e;cases e;exact k φ H (.refl _) R σc rs
theorem c6{st:Stmt}{sts:List Stmt}{s:S}{ss:Ss}(h1:SS X G F st s)(h2:SSs X G F sts ss):SSs X G F (st::sts) (.cons s ss):=by
 refine l9 (L2.pss_cons h1 h2) λD σc H q=>?_;obtain⟨φ,h,σ,out,h',R,rs,e,k⟩:=q;unfold exs at e;obtain⟨⟨o,h1⟩,e1,e⟩:=Res.bind_inv e;refine⟨φ,h,σ,o,h1,R,rs,e1,λφ1 H1 x1 R1=>?_⟩;cases o with
 |nx σ1=>exact λσc1 rs1=>⟨φ1,h1,σ1,out,h',R1,rs1,e,k.mono x1⟩
 |rt v=>cases e;exact k φ1 H1 x1 R1
 |bk σ1=>cases e;exact k φ1 H1 x1 R1
 |ct σ1=>cases e;exact k φ1 H1 x1 R1
theorem qCX{t u:List Stmt}{st su:Ss}(hc:ST X G F ec c)(ht:SSs X G F t st)(hu:SSs X G F u su):SS X G F (.If ec t u pos) (.ifs c st su):=by
 refine JH (L2.ps_if hc ht hu) λD σc H q=>?_;obtain⟨φ,h,σ,out,h',R,rs,e,k⟩:=q;unfold ex at e;obtain⟨⟨x,h1⟩,e1,e⟩:=Res.bind_inv e;refine⟨φ,h,σ,x,h1,R,rs,e1,λφ1 H1 x1 R1=>?_⟩;dsimp only at e;cases x with
 |true=>
  rw[if_pos rfl]at e ⊢;exact⟨φ1,h1,σ,out,h',R1,rst.mono x1 rs,e,k.mono x1⟩
 |false=>
  rw[if_neg (by decide)]at e ⊢;exact⟨φ1,h1,σ,out,h',R1,rst.mono x1 rs,e,k.mono x1⟩
theorem qBl{iter:Expr}{body:List Stmt}{it:Itr}{g:Tg}{sb:Ss}(hx:X.xe=λ_ _=>False)(hc:X.calm=true)(hi:SI X G F tg iter it)(hg:SG X G tg g)(hb:SSs X G F body sb)
  (hs:∀x,foldedSetIterable iter X.env x=pure x):SS X G F (.For tg iter body [] pos) (.for_ g it sb):=by
 refine JH (L2.ps_for (by rw[hx];exact PassesOwn.never) hc hi hg hb hs) λD σc H q=>?_;obtain⟨φ,h,σ,out,h',R,rs,e,k⟩:=q;unfold ex at e;obtain⟨⟨s,h1⟩,e1,e⟩:=Res.bind_inv e;refine⟨φ,h,σ,s,h1,R,rs,e1,λφ1 H1 J x1 R1 j1=>?_⟩;dsimp only at e;split at e
 ·rename_i n hn;refine⟨λi m σ' H'=>∃φ' h2 σa,Ext φ1 φ'/\Rl X.K G φ' h2 H'/\rst φ' σa σ'/\G8 s g (exs F sb) m i σa h2=.ok (out,h'),⟨n,φ1,h1,σ,.refl _,R1,rst.mono x1 rs,e⟩,?_⟩;rintro i m σ' H' ⟨φ',h2,σa,x2,Ra,rsa,ef⟩;have jj:IsJ X.K φ' s J:=j1.mono x2;cases m with
  |zero=>
   unfold G8 at ef;split at ef
   ·rename_i hst;cases ef;exact .inl ⟨jj.stop Ra hst,k φ' H' (x1.trans x2) Ra σ' rsa⟩
   ·cases ef
  |succ m=>
   unfold G8 at ef;split at ef
   ·rename_i x h3 hy;split at ef
    ·rename_i σ3 hst;refine .inr ⟨jj.go Ra hy,λσ' H'=>∃φ' h2 σa,Ext φ1 φ'/\Rl X.K G φ' h2 H'/\rst φ' σa σ'/\G8 s g (exs F sb) m (i+1) σa h2=.ok (out,h'),λσ2 H2 w=>⟨m,Nat.lt_succ_self _,w⟩,λxv H2 hyl=>?_⟩;obtain⟨φ3,x3,R3,rx⟩:=jj.yld Ra hy hyl;refine⟨φ3,h3,σa,x,σ3,R3,rst.mono x3 rsa,rx,hst,λσc3 rs3=>?_⟩;obtain⟨⟨o,h4⟩,e4,ef⟩:=Res.bind_inv ef;refine⟨φ3,h3,σ3,o,h4,R3,rs3,e4,λφ4 H4 x4 R4=>?_⟩;dsimp only at ef;cases o with
     |nx σ4=>exact λσc4 rs4=>⟨φ4,h4,σ4,x2.trans (x3.trans x4),R4,rs4,ef⟩
     |ct σ4=>exact λσc4 rs4=>⟨φ4,h4,σ4,x2.trans (x3.trans x4),R4,rs4,ef⟩
     |bk σ4=>cases ef;exact k φ4 H4 (x1.trans (x2.trans (x3.trans x4))) R4
     |rt v=>cases ef;exact k φ4 H4 (x1.trans (x2.trans (x3.trans x4))) R4
    ·cases ef
   ·cases ef
 ·cases e
end
structure Gam where
 N:List Str
 sc:Scope
 fns:List Str
 gl:List (Str×E)
 bl:List Str
 own:Str->Bool
 cls:List Str:=[]
 xr:Bool:=false
noncomputable def slot(N:List Str)(x:Str):Option Nat:=(List.range N.length).find? λi=>N[i]?==some x
theorem jo{N:List Str}{x:Str}{i:Nat}(h:slot N x=some i):N[i]?=some x:=by
 unfold slot at h;simpa using List.find?_some h
noncomputable def qDx(sc:Scope)(x:Str):Bool:=match sc.names.lookup x with|some .local=>true|some .cell=>true|some .free=>true|_=>false
theorem y8{sc:Scope}{x:Str}(h:qDx sc x=true):L2.Vis sc x:=by
 unfold qDx at h;unfold L2.Vis;split at h<;>first|(rename_i e;simp[e])|cases h
noncomputable def glB(sc:Scope)(x:Str):Bool:=sc.names.lookup x==some .globalImplicit
noncomputable def okN(x:Str):Bool:=!(x==("__debug__":Str))&&!(x==("__classdict__":Str))&&!decide (x="__name__")
noncomputable def qEK:Operator->Option BOp
 | .Add=>some .add | .Sub=>some .sub | .Mult=>some .mul | .FloorDiv=>some .fdiv | .Mod=>some .mod | .Pow=>some .pow | .BitAnd=>some .band|_=>none
theorem r6{o:Operator}{b:BOp}(h:qEK o=some b):o=opB b:=by
 cases o<;>cases h<;>rfl
noncomputable def L6:CmpOp->COp
 | .Lt=>.lt | .LtE=>.le | .Gt=>.gt | .GtE=>.ge | .Eq=>.eq | .NotEq=>.ne | .In=>.inn | .NotIn=>.notin | .Is=>.is | .IsNot=>.isnot
theorem Jz(o:CmpOp):o=opC (L6 o):=by cases o<;>rfl
noncomputable def Jy:Expr->Bool
 | .Set ..=>false
 |_=>true
noncomputable def JQ:Expr->Bool
 | .Call ..=>false
 |_=>true
noncomputable def bfL:List (Str×BF):=[("len",.len),("sum",.sum),("all",.all),("any",.any),("max",.max),("min",.min),("list",.list),("int",.int),("repr",.repr)]
noncomputable def qEm(x:Str):Option BF:=bfL.lookup x
theorem ZH{x:Str}{f:BF}:∀{l:List (Str×BF)},l.lookup x=some f->(x,f)∈l
 | [],h=>by cases h
 | (a,b)::l,h=>by
  rw[List.lookup_cons]at h;split at h
  ·rename_i e;cases h;rw[eq_of_beq e];exact List.mem_cons_self ..
  ·exact List.mem_cons_of_mem _ (ZH h)
theorem qBi:∀p∈bfL,bootBuiltins p.1=some (fnB p.2):=
 wK.mpr ⟨PySem.boot_len,wK.mpr ⟨PyProof.Rows.boot_sum,wK.mpr ⟨PyProof.Rows.boot_all,wK.mpr ⟨PyProof.Rows.boot_any,wK.mpr ⟨PyProof.Rows.boot_max,wK.mpr ⟨PyProof.Rows.boot_min,wK.mpr ⟨PyProof.Rows.boot_list,wK.mpr ⟨PyProof.Rows.boot_int,wK.mpr ⟨PyProof.Rows.boot_repr,(λ_ h=>absurd h wZ)⟩⟩⟩⟩⟩⟩⟩⟩⟩
theorem qAn{x:Str}{f:BF}(h:qEm x=some f):bootBuiltins x=some (fnB f):=qBi _ (ZH h)
noncomputable def mt0(m:Str):Option Mt:=if m="pop" then some .pop else if m="reverse" then some .rev else if m="clear" then some .clr else none
noncomputable def qC8(x:Str):Option String:=
 if x="int" then some "int" else if x="bool" then some "bool" else if x="list" then some "list" else if x="tuple" then some "tuple" else if x="str" then some "str" else if x="dict" then some "dict" else none
theorem qAd{x:Str}{t:String}(h:qC8 x=some t):bootBuiltins x=some (.type t)/\JV t=true:=by
 unfold qC8 at h
 repeat' split at h
 all_goals first|cases h|skip
 all_goals (rename_i hx;subst hx)
 ·exact⟨PyProof.Rows.boot_int,by decide⟩
 ·exact⟨PyProof.Rows.boot_bool,by decide⟩
 ·exact⟨PyProof.Rows.boot_list,by decide⟩
 ·exact⟨PyProof.Rows.boot_tuple,by decide⟩
 ·exact⟨PyProof.Rows.boot_str,by decide⟩
 ·exact⟨PyProof.Rows.boot_dict,by decide⟩
noncomputable def qCp(scope sc:Scope):Scope:=
 { scope with names:=scope.names.map λ(n,k)=>if (k==.free&&sc.kind==.function&&sc.names.lookup n==some .cell) then (n,.cell) else (n,k) }
noncomputable def V5:Expr->List Str
 | .Name x _=>[x]
 | .Tuple es _ _=>es.filterMap λe:Expr=>match e with | .Name x _=>some x|_=>none
 |_=>[]
noncomputable def qB3(scope:Scope):List Str:=scope.names.filterMap λy=>if y.2=.free then some y.1 else none
noncomputable def JD(Γ:Gam)(scope:Scope)(N:List Str)(src:List (Option Nat)):Bool:=
 decide (scope.kind=.function)&&scope.names.all (λy=>decide (scope.names.lookup y.1=some y.2))
 && scope.names.all (λy=>decide (y.2=.free->(Γ.sc.names.lookup y.1=some .cell\/Γ.sc.names.lookup y.1=some .free)))&&decide N.Nodup&&decide (src.length=N.length)
 && (List.range N.length).all (λi=>match N[i]?,src[i]? with|some x,some (some j)=>decide (Γ.N[j]?=some x/\scope.names.lookup x=some .free)|_,_=>true)
noncomputable def F6(Γ:Gam)(x:Str):Bool:=match Γ.sc.names.lookup x with|some .local=>true|some .cell=>Γ.own x|_=>false
noncomputable def qCm(Γ:Gam):List Expr->Option (List Nat)
 | []=>some []
 | .Name x _::r=>if F6 Γ x then (match slot Γ.N x,qCm Γ r with|some i,some is=>some (i::is)|_,_=>none) else none
 |_=>none
noncomputable def trT(Γ:Gam):Expr->Option Tg
 | .Name x _=>if F6 Γ x then (slot Γ.N x).map .name else none
 | .Tuple es _ _=>(qCm Γ es).map .tup
 |_=>none
noncomputable def qDA:List Expr->Bool
 | [.Call (.Name r _) [_] [] _]=>decide (r="range")
 | [.Call (.Name r _) [_,_] [] _]=>decide (r="range")
 |_=>false
noncomputable def qEH:E->Bool
 |_=>true
mutual
noncomputable def trE:Nat->Gam->Expr->Option E
 | 0,_,_=>none
 |n+1,Γ,e=>match e with
  | .Constant c _ _=>(match c with
   | .int i=>some (.cst (.int i))
   | .bool i=>some (.cst (.bl i))
   | .none=>some (.cst .non)
   | .str i=>some (.cst (.str i))
   |_=>none)
  | .Name x _=>if okN x then (if qDx Γ.sc x then (slot Γ.N x).map .var else if glB Γ.sc x then Γ.gl.lookup x else none) else none
  | .BinOp a op b _=>match qEK op,trE n Γ a,trE n Γ b with|some o,some a',some b'=>some (.bin o a' b')|_,_,_=>none
  | .UnaryOp op a _=>(match op with
   | .USub=>(trE n Γ a).map .neg
   | .Not=>(trE n Γ a).map .not
   |_=>none)
  | .BoolOp op vs p=>trB n Γ op p vs
  | .IfExp c a b _=>match trE n Γ c,trE n Γ a,trE n Γ b with|some c',some a',some b'=>some (.ite c' a' b')|_,_,_=>none
  | .Compare a ops bs _=>(match ops,bs with
   | [op],[b]=>if Jy b then (match trE n Γ a,trE n Γ b with|some a',some b'=>some (.cmp (L6 op) a' b')|_,_=>none) else none
   | [o1,o2],[b,c]=>if Jy c then (match trE n Γ a,trE n Γ b,trE n Γ c with|some a',some b',some c'=>some (.cmp2 (L6 o1) (L6 o2) a' b' c')|_,_,_=>none) else none
   |_,_=>none)
  | .Call fn args kws cpos=>(match kws with
   | []=>(match fn with
    | .Name f _=>if okN f&&glB Γ.sc f&&args.all qX then trC n Γ f args else none
    | .Attribute o m apos=>(match args with
     | [x]=>if m="append"/\JQ o=true/\qX x=true/\(apos.endLine==cpos.line)=true then (match trE n Γ o,trE n Γ x with|some o',some x'=>some (.app o' x')|_,_=>none)
   else if m="pop"/\JQ o=true/\qX x=true/\(apos.endLine==cpos.line)=true then (match trE n Γ o,trE n Γ x with|some o',some x'=>some (.meth .popAt o' (.cons x' .nil))|_,_=>none)  else none
     | []=>if m="bit_length" then (if JQ o=true/\(apos.endLine==cpos.line)=true then (trE n Γ o).map (λo'=>.blt .bits (.cons o' .nil)) else none) else if JQ o=true/\(apos.endLine==cpos.line)=true then (match trE n Γ o,mt0 m with|some o',some k=>some (.meth k o' .nil)|_,_=>none) else none
     |_=>none)
    |_=>none)
   |_=>none)
  | .Subscript a b _=>(match b with
   | .Slice lo hi st _=>(match st with
    |none=>(match trE n Γ a,trO n Γ lo,trO n Γ hi with|some a',some l,some h=>some (.sl a' l h)|_,_,_=>none)
    |some _=>none)
   |b=>if Qr b then (match trE n Γ a,trE n Γ b with|some a',some b'=>some (.idx a' b')|_,_=>none) else none)
  | .List es _=>if es.all qX then (trA n Γ es).map .lst else none
  | .Tuple es _ _=>if es.all qX then (trA n Γ es).map .tup else none
  | .Dict ks vs _=>(match ks,vs with|[],[]=>some .dnew|_,_=>none)
  | .ListComp elt gens scope _=>(match gens with
   | [gen]=>(match gen with
    | ⟨tg,iter,ifs,asy⟩=>(match asy with
     | 0=>
      let N:=V5 tg++qB3 scope
      let src:=(V5 tg).map (λ_=>none)++(qB3 scope).map (slot Γ.N)
      let Γ':Gam:={ Γ with N:=N,sc:=qCp scope Γ.sc,own:=λx=>decide (scope.names.lookup x=some .cell) }
      if JD Γ scope N src&&Jy iter then (match trI n Γ tg iter,trT Γ' tg,qA0 n Γ' ifs,trE n Γ' elt with|some it,some g,some c,some e'=>some (.comp it src g c e')|_,_,_,_=>none) else none
     |_=>none))
   |_=>none)
  |_=>none
noncomputable def trA:Nat->Gam->List Expr->Option Es
 | 0,_,_=>none
 |_+1,_,[]=>some .nil
 |n+1,Γ,e::es=>match trE n Γ e,trA n Γ es with|some a,some as=>some (.cons a as)|_,_=>none
noncomputable def trB:Nat->Gam->BoolOp->Pos->List Expr->Option E
 | 0,_,_,_,_=>none
 |_+1,_,_,_,[]=>none
 |n+1,Γ,_,_,[a]=>trE n Γ a
 |n+1,Γ,op,p,a::b::r=>match trE n Γ a,trB n Γ op p (b::r) with|some a',some b'=>some (match op with | .And=>.and a' b' | .Or=>.or a' b')|_,_=>none
noncomputable def trC:Nat->Gam->Str->List Expr->Option E
 | 0,_,_,_=>none
 |n+1,Γ,f,args=>match slot Γ.fns f with
  |some i=>(trA n Γ args).map (.call i)
  |none=>if Γ.bl.contains f then
    (if f="isinstance" then (match args with
     | [a,.Name t _]=>if okN t&&glB Γ.sc t&&Γ.bl.contains t then (match trE n Γ a,qC8 t with|some a',some t'=>some (.isi a' [t'])|_,_=>none) else none
     |_=>none)
    else if f="list"/\qDA args=true then (match args with
     | [.Call (.Name r _) [a] [] _]=>if okN r&&glB Γ.sc r&&Γ.bl.contains r&&qX a&&decide (r="range") then (trE n Γ a).map .lrng else none
     |_=>none)
    else match qEm f,args with
     |some b,_::_=>(trA n Γ args).map (.blt b)
     |_,_=>none)
   else none
noncomputable def trO:Nat->Gam->Option Expr->Option Es
 | 0,_,_=>none
 |_+1,_,none=>some .nil
 |n+1,Γ,some e=>(trE n Γ e).map λa=>.cons a .nil
noncomputable def qA0:Nat->Gam->List Expr->Option Es
 | 0,_,_=>none
 |_+1,_,[]=>some .nil
 |n+1,Γ,[c]=>(trE n Γ c).map λa=>.cons a .nil
 |_,_,_=>none
noncomputable def trI:Nat->Gam->Expr->Expr->Option Itr
 | 0,_,_,_=>none
 |n+1,Γ,tg,iter=>match iter with
  | .Call (.Name f _) args [] _=>
   if f="range" then (if glB Γ.sc f&&Γ.bl.contains f&&args.all qX then (match args with
    | [a]=>(trE n Γ a).map .rng1
    | [a,b]=>match trE n Γ a,trE n Γ b with|some a',some b'=>some (.rng2 a' b')|_,_=>none
    |_=>none) else none)
   else if f="zip" then (if glB Γ.sc f&&Γ.bl.contains f&&args.all qX then (match tg,args with
    | .Tuple ..,[a,b]=>match trE n Γ a,trE n Γ b with|some a',some b'=>some (.zip a' b')|_,_=>none
    |_,_=>none) else none)
   else (trE n Γ iter).map .list
  |_=>(trE n Γ iter).map .list
end
mutual
noncomputable def trS:Nat->Gam->Stmt->S
 | 0,_,_=>.stop
 |n+1,Γ,st=>match st with
  | .Assign ts v _=>(match ts with
   | [tgt]=>(match tgt with
    | .Name x _=>(match trT Γ (.Name x ⟨0,0,0,0⟩),trE 60 Γ v with|some g,some a=>if qEH a then .asg g a else .stop|_,_=>.stop)
    | .Subscript o i _=>if QU v&&Qr i then (match trE 60 Γ o,trE 60 Γ i,trE 60 Γ v with|some o',some i',some v'=>.put o' i' v' | _,_,_=>.stop) else .stop
    |_=>.stop)
   |_=>.stop)
  | .Expr e _=>if QU e then (match trE 60 Γ e with|some a=>.expr a|none=>.stop) else .stop
  | .Return r _=>(match r with
   |some e=>(match trE 60 Γ e with|some a=>.ret a|none=>.stop)
   |none=>.stop)
  | .If c t u _=>match trE 60 Γ c with|some c'=>.ifs c' (V0 n Γ t) (V0 n Γ u)|none=>.stop
  | .For tg iter b els _=>(match els with
   | []=>if Jy iter then (match trI 60 Γ tg iter,trT Γ tg with|some it,some g=>.for_ g it (V0 n Γ b)|_,_=>.stop) else .stop
   |_=>.stop)
  |_=>.stop
noncomputable def V0:Nat->Gam->List Stmt->Ss
 | 0,_,_=>.cons .stop .nil
 |_+1,_,[]=>.nil
 |n+1,Γ,s::r=>.cons (trS n Γ s) (V0 n Γ r)
end
structure Fit(Γ:Gam)(X:Cx)(G:List Addr)(F:Nat->List V->AH->RV):Prop where
 hN:X.N=Γ.N
 nd:Γ.N.Nodup
 sc:X.env.scope=Γ.sc
 calm:X.calm=true
 fn:∀x,Γ.own x=true->X.fn x=true
 fns:∀(f:Nat) x,Γ.fns[f]?=some x->FnS X G F f x
 gls:∀x e,Γ.gl.lookup x=some e->(∃v u,e=.cst v/\X.mg x=some u/\RelV v u/\∀φ,rv φ v v)\/(∃g a,e=.glob g/\X.mg x=some (.ref a)/\G[g]?=some a)
 blt:∀x,Γ.bl.contains x=true->X.mg x=none
 hu:X.A.units+8<cLine
 gd:X.A.guards=some []
 gtu:∀a∈G,∃o,X.K.lookup a=some o/\o.cls=.type "tuple"/\o.dict=none
section
variable{Γ:Gam}{X:Cx}{G:List Addr}{F:Nat->List V->AH->RV}
theorem Q4{x:Str}(h:okN x=true):(x==("__debug__":Str))=false/\(x==("__classdict__":Str))=false/\x≠"__name__":=by
 unfold okN at h;simp only[Bool.and_eq_true,Bool.not_eq_true',decide_eq_false_iff_not]at h;exact⟨h.1.1,h.1.2,h.2⟩
theorem Fit.gl'(f:Fit Γ X G F){x:Str}(h:glB Γ.sc x=true):L2.Gl X x:=by
 unfold L2.Gl Env.kindOf;rw[f.sc];simpa [glB] using h
theorem Fit.store(f:Fit Γ X G F){x:Str}(h:F6 Γ x=true):L2.Loc X.env.scope x/\(X.fn x=true\/X.env.scope.names.lookup x=some .local):=by
 rw[f.sc];unfold F6 at h;unfold L2.Loc;split at h
 ·rename_i e;exact⟨.inl e,.inr e⟩
 ·rename_i e;exact⟨.inr e,.inl (f.fn x h)⟩
 ·cases h
theorem j3(f:Fit Γ X G F):∀{es:List Expr}{is:List Nat},qCm Γ es=some is->PGs X es (tGs is)/\(assignEach es X.env).length=is.length/\(assignEach es X.env).findIdx? (·.1)=none
 | [],is,h=>by
  cases h;exact⟨qAL,rfl,rfl⟩
 |e::es,is,h=>by
  unfold qCm at h;split at h
  ·rename_i e1;cases e1
  ·rename_i x p r e1;cases e1;split at h
   ·rename_i hs;split at h
    ·rename_i i is' ei eis;cases h;obtain⟨h1,h2⟩:=f.store hs;obtain⟨g1,g2,g3⟩:=j3 f eis;refine⟨a5 (by rw[f.hN];exact f.nd) (by rw[f.hN];exact jo ei) h1 h2 g1,?_,?_⟩
     ·show (assignEach es X.env).length+1=_;rw[g2];rfl
     ·show (((false,assign (.Name x p) X.env)::assignEach es X.env).findIdx? (·.1))=none;rw[List.findIdx?_cons,g3];rfl
    ·cases h
   ·cases h
  ·cases h
theorem d9(f:Fit Γ X G F){tg:Expr}{g:Tg}(h:trT Γ tg=some g):SG X G tg g:=by
 unfold trT at h;split at h
 ·rename_i x p;split at h
  ·rename_i hs;obtain⟨i,ei,rfl⟩:=Option.map_eq_some_iff.mp h;obtain⟨h1,h2⟩:=f.store hs;exact Q3 (by rw[f.hN];exact f.nd) (by rw[f.hN];exact jo ei) h1 h2
  ·cases h
 ·obtain⟨is,ei,rfl⟩:=Option.map_eq_some_iff.mp h;obtain⟨g1,g2,g3⟩:=j3 f ei;exact qCb f.calm g1 g2 g3
 ·cases h
theorem S7{op:CmpOp}{e:Expr}(h:Jy e=true):behindInMarks op e=false:=by
 cases e<;>first|rfl|cases h
theorem S9{o1 o2:CmpOp}{b c:Expr}(h:Jy c=true):lastMarks [o1,o2] [b,c]=false:=by
 show behindInMarks o2 c=false;exact S7 h
theorem O3{iter:Expr}{env:Env}(h:Jy iter=true):∀x,foldedSetIterable iter env x=pure x:=by
 intro x;cases iter<;>first|rfl|cases h
theorem J0{o:Expr}{n:Str}{env:Env}{w:Sem Value}(h:JQ o=true):attributeBase o n env w=w:=by
 cases o<;>first|rfl|cases h
theorem jt(f:Fit Γ X G F){scope:Scope}{N:List Str}{src:List (Option Nat)}(h:JD Γ scope N src=true):L2.CompScope X scope N src:=by
 unfold JD at h;simp only[Bool.and_eq_true,wL,vY]at h;obtain⟨⟨⟨⟨⟨h1,h2⟩,h4⟩,h5⟩,h6⟩,h7⟩:=h;refine⟨h1,h2,λy hy hk=>?_,h5,h6,λi x j e1 e2=>?_⟩
 ·unfold Env.kindOf;rw[f.sc];exact h4 y hy hk
 ·have hi:i<N.length:=(List.getElem?_eq_some_iff.mp e1).1;have:=h7 i (wF.mpr hi);rw[e1,e2]at this;rw[f.hN];simpa using this
theorem zw(f:Fit Γ X G F){scope:Scope}{N:List Str}{src:List (Option Nat)}(h:JD Γ scope N src=true)(C:Addr)(fp:List Addr)(s:Shared)(H:Hp):
  Fit { Γ with N:=N,sc:=qCp scope Γ.sc,own:=λx=>decide (scope.names.lookup x=some .cell) } (L2.cxComp X scope C fp s H N) G F:=by
 have S:=jt f h;refine⟨rfl,S.nd,?_,f.calm,λx z=>z,λg x e=>?_,f.gls,f.blt,f.hu,f.gd,f.gtu⟩
 ·show relabel scope X.env=qCp scope Γ.sc;unfold relabel qCp Env.kindOf;rw[f.sc]
 ·exact⟨(f.fns g x e).ex⟩
theorem X0{m:Str}{k:Mt}{o:Expr}{a:E}{apos cpos:Pos}(hk:mt0 m=some k)(hbase:attributeBase o m X.env (eval o X.env)=eval o X.env)(hline:(apos.endLine==cpos.line)=true)(ha:SE X G F o a):SE X G F (.Call (.Attribute o m apos) [] [] cpos) (.meth k a .nil):=by
 unfold mt0 at hk;split at hk
 ·rename_i e;subst e;cases hk;exact qAR hbase hline ha
 ·split at hk
  ·rename_i e;subst e;cases hk;exact w4 hbase hline ha
  ·split at hk
   ·rename_i e;subst e;cases hk;exact y4 hbase hline ha
   ·cases hk
theorem D3(n:Nat):
  (∀ Γ e a,trE n Γ e=some a->∀X:Cx,Fit Γ X G F->SE X G F e a/\ST X G F e a)/\
  (∀ Γ es as,trA n Γ es=some as->es.all qX=true->∀X:Cx,Fit Γ X G F->SA X G F es as)/\
  (∀ Γ op p vs a,trB n Γ op p vs=some a->∀X:Cx,Fit Γ X G F->SE X G F (.BoolOp op vs p) a/\SW X G F (.BoolOp op vs p) a)/\
  (∀ Γ f args a,trC n Γ f args=some a->okN f=true->glB Γ.sc f=true->args.all qX=true->∀X:Cx,Fit Γ X G F->∀p pos,SE X G F (.Call (.Name f p) args [] pos) a)/\
  (∀ Γ o as,trO n Γ o=some as->∀X:Cx,Fit Γ X G F->SO X G F o as)/\
  (∀ Γ ifs as,qA0 n Γ ifs=some as->∀X:Cx,Fit Γ X G F->SC X G F ifs as)/\
  (∀ Γ tg iter it,trI n Γ tg iter=some it->∀X:Cx,Fit Γ X G F->SI X G F tg iter it):=by
 induction n with
 |zero=>exact⟨(λ_ _ _ h=>by unfold trE at h;cases h),(λ_ _ _ h=>by unfold trA at h;cases h),(λ_ _ _ _ _ h=>by unfold trB at h;cases h),(λ_ _ _ _ h=>by unfold trC at h;cases h),(λ_ _ _ h=>by unfold trO at h;cases h),(λ_ _ _ h=>by unfold qA0 at h;cases h),(λ_ _ _ _ h=>by unfold trI at h;cases h)⟩
 |succ n ih=>
  obtain⟨iE,iA,iB,iC,iO,iIf,iI⟩:=ih;refine⟨?_,?_,?_,?_,?_,?_,?_⟩
  ·intro Γ e a h X f;unfold trE at h;split at h
   ·split at h
    ·cases h;exact⟨m4,qR m4 λ_=>rfl⟩
    ·cases h;exact⟨qB6,qR qB6 λ_=>rfl⟩
    ·cases h;exact⟨l6,qR l6 λ_=>rfl⟩
    ·cases h;exact⟨g9,qR g9 λ_=>rfl⟩
    ·cases h
   ·rename_i x p;split at h
    ·rename_i ho;obtain⟨o1,o2,o3⟩:=Q4 ho;split at h
     ·rename_i hv;obtain⟨i,ei,rfl⟩:=Option.map_eq_some_iff.mp h;have s1:SE X G F (.Name x p) (.var i):=qBg (by rw[f.hN];exact jo ei) (by rw[f.sc];exact y8 hv) o1 o2;exact⟨s1,qR s1 λ_=>rfl⟩
     ·split at h
      ·rename_i hg;rcases f.gls x a h with⟨v,u,rfl,e1,e2,e3⟩|⟨g,ad,rfl,e1,e2⟩
       ·have s1:SE X G F (.Name x p) (.cst v):=v5 (f.gl' hg) e1 e2 e3 o1;exact⟨s1,qR s1 λ_=>rfl⟩
       ·have s1:SE X G F (.Name x p) (.glob g):=qAj (f.gl' hg) e1 e2 o1;exact⟨s1,qR s1 λ_=>rfl⟩
      ·cases h
    ·cases h
   ·split at h
    ·rename_i o a' b' eo ea eb;cases h;rw[r6 eo];exact⟨m8 (iE _ _ _ ea X f).1 (iE _ _ _ eb X f).1,qR (m8 (iE _ _ _ ea X f).1 (iE _ _ _ eb X f).1) λ_=>rfl⟩
    ·cases h
   ·split at h
    ·obtain⟨a',ea,rfl⟩:=Option.map_eq_some_iff.mp h;have s1:=qBd (pos:=‹Pos›) (iE _ _ _ ea X f).1;exact⟨s1,qR s1 λ_=>rfl⟩
    ·obtain⟨a',ea,rfl⟩:=Option.map_eq_some_iff.mp h;exact⟨qCM (iE _ _ _ ea X f).1,qCH (iE _ _ _ ea X f).2⟩
    ·cases h
   ·obtain⟨s1,s2⟩:=iB _ _ _ _ _ h X f;exact⟨s1,s2.pt⟩
   ·split at h
    ·rename_i c' a' b' ec ea eb;cases h;exact⟨qB9 (iE _ _ _ ec X f).2 (iE _ _ _ ea X f).1 (iE _ _ _ eb X f).1,qCE (iE _ _ _ ec X f).2 (iE _ _ _ ea X f).2 (iE _ _ _ eb X f).2⟩
    ·cases h
   ·split at h
    ·rename_i op b0;split at h
     ·rename_i hs;split at h
      ·rename_i a' b' ea eb;cases h;rw[Jz op];have e1:L6 (opC (L6 op))=L6 op:=by cases op<;>rfl
       rw[e1];exact⟨qBN f.hu (iE _ _ _ ea X f).1 (iE _ _ _ eb X f).1 (S7 hs),qA5 f.hu (iE _ _ _ ea X f).1 (iE _ _ _ eb X f).1 (S7 hs)⟩
      ·cases h
     ·cases h
    ·rename_i o1 o2 b0 c0;split at h
     ·rename_i hs;split at h
      ·rename_i a' b' c' ea eb ec;cases h;rw[Jz o1,Jz o2];have e1:L6 (opC (L6 o1))=L6 o1:=by cases o1<;>rfl
       have e2:L6 (opC (L6 o2))=L6 o2:=by cases o2<;>rfl
       rw[e1,e2];exact⟨d6 f.hu (iE _ _ _ ea X f).1 (iE _ _ _ eb X f).1 (iE _ _ _ ec X f).1 (S9 hs),Y9 f.hu (iE _ _ _ ea X f).1 (iE _ _ _ eb X f).1 (iE _ _ _ ec X f).1 (S9 hs)⟩
      ·cases h
     ·cases h
    ·cases h
   ·split at h
    ·split at h
     ·split at h
      ·rename_i hc;simp only[Bool.and_eq_true]at hc;have s1:=iC _ _ _ _ h hc.1.1 hc.1.2 hc.2 X f;exact⟨s1 _ _,qR (s1 _ _) λ_=>rfl⟩
      ·cases h
     ·split at h
      ·split at h
       ·rename_i hc;obtain⟨rfl,hc1,hc2,hc3⟩:=hc;split at h
        ·rename_i o' x' eo ex;cases h;have s1:=qBa (J0 hc1) hc3 hc2 (iE _ _ _ eo X f).1 (iE _ _ _ ex X f).1;exact⟨s1,qR s1 λ_=>rfl⟩
        ·cases h
       ·split at h
        ·rename_i hc;obtain⟨rfl,hc1,hc2,hc3⟩:=hc;split at h
         ·rename_i o' x' eo ex;cases h;have s1:=a7 (J0 hc1) hc3 hc2 (iE _ _ _ eo X f).1 (iE _ _ _ ex X f).1;exact⟨s1,qR s1 λ_=>rfl⟩
         ·cases h
        ·cases h
      ·split at h
       ·rename_i hm;subst hm;split at h
        ·rename_i hc;obtain⟨o',eo,rfl⟩:=Option.map_eq_some_iff.mp h;have s1:=qAh f.calm f.hu f.gd (J0 hc.1) hc.2 (iE _ _ _ eo X f).1;exact⟨s1,qR s1 λ_=>rfl⟩
        ·cases h
       split at h
       ·rename_i hc;obtain⟨hc1,hc3⟩:=hc;split at h
        ·rename_i o' k eo ek;cases h;have s1:=X0 ek (J0 hc1) hc3 (iE _ _ _ eo X f).1;exact⟨s1,qR s1 λ_=>rfl⟩
        ·cases h
       ·cases h
      ·cases h
     ·cases h
    ·cases h
   ·split at h
    ·split at h
     ·split at h
      ·rename_i a' l h' ea el eh;cases h;exact⟨qBI (iE _ _ _ ea X f).1 (iO _ _ _ el X f) (iO _ _ _ eh X f),qR (qBI (iE _ _ _ ea X f).1 (iO _ _ _ el X f) (iO _ _ _ eh X f)) λ_=>rfl⟩
      ·cases h
     ·cases h
    ·split at h
     ·rename_i hs;split at h
      ·rename_i a' b' ea eb;cases h;have s1:=qCV (pos:=‹Pos›) hs (iE _ _ _ ea X f).1 (iE _ _ _ eb X f).1;exact⟨s1,qR s1 λ_=>rfl⟩
      ·cases h
     ·cases h
   ·split at h
    ·rename_i hs;obtain⟨a',ea,rfl⟩:=Option.map_eq_some_iff.mp h;have s1:=qBy (pos:=‹Pos›) (iA _ _ _ ea hs X f);exact⟨s1,qR s1 λ_=>rfl⟩
    ·cases h
   ·split at h
    ·rename_i hs;obtain⟨a',ea,rfl⟩:=Option.map_eq_some_iff.mp h;exact⟨m9 (iA _ _ _ ea hs X f),qR (m9 (iA _ _ _ ea hs X f)) λ_=>rfl⟩
    ·cases h
   ·split at h
    ·cases h;exact⟨O4,qR O4 λ_=>rfl⟩
    ·cases h
   ·split at h
    ·split at h;split at h
     ·dsimp only at h;split at h
      ·rename_i hc;simp only[Bool.and_eq_true]at hc;split at h
       ·rename_i it g c e' ei eg ec ee;cases h;have s1:=T2 (pos:=‹Pos›) f.calm (iI _ _ _ _ ei X f) (jt f hc.1) (λC fp s H=>d9 (zw f hc.1 C fp s H) eg) (λC fp s H=>iIf _ _ _ ec _ (zw f hc.1 C fp s H)) (λC fp s H=>(iE _ _ _ ee _ (zw f hc.1 C fp s H)).1) (O3 hc.2);exact⟨s1,qR s1 λ_=>rfl⟩
       ·cases h
      ·cases h
     ·cases h
    ·cases h
   ·cases h
  ·intro Γ es as h hs X f;cases es with
   |nil=>simp only[trA]at h;cases h;exact j8
   |cons e es=>
    simp only[trA]at h;simp only[List.all_cons,Bool.and_eq_true]at hs;split at h
    ·rename_i a as ea eas;cases h;exact S0 hs.1 (iE _ _ _ ea X f).1 (iA _ _ _ eas hs.2 X f)
    ·cases h
  ·intro Γ op p vs a h X f;cases vs with
   |nil=>simp only[trB]at h;cases h
   |cons e r=>
    cases r with
    |nil=>
     simp only[trB]at h;obtain⟨s1,s2⟩:=iE _ _ _ h X f;refine⟨L2.pe_one s1,?_⟩;cases op with
     |And=>exact L2.pw_and1 s2
     |Or=>exact L2.pw_or1 s2
    |cons b r=>
     simp only[trB]at h;split at h
     ·rename_i a' b' ea eb;cases h;obtain⟨s1,s2⟩:=iE _ _ _ ea X f;obtain⟨s3,s4⟩:=iB _ _ _ _ _ eb X f;cases op with
      |And=>exact⟨qB1 s1 s3,qBS s2 s4⟩
      |Or=>exact⟨qDj s1 s3,qDo s2 s4⟩
     ·cases h
  ·intro Γ g args a h ho hg hs X f p pos;obtain⟨o1,o2,o3⟩:=Q4 ho;unfold trC at h;split at h
   ·rename_i i ei;obtain⟨as,ea,rfl⟩:=Option.map_eq_some_iff.mp h;have sA:=iA _ _ _ ea hs X f;cases args with
    |nil=>
     have:as=.nil:=by
      cases n with
      |zero=>simp only[trA]at ea;cases ea
      |succ m=>simp only[trA]at ea;cases ea;rfl
     subst this;exact Y4 (f.fns i g (jo ei)) (f.gl' hg) o1
    |cons e es=>
     simp only[List.all_cons,Bool.and_eq_true]at hs;exact q0 (f.fns i g (jo ei)) (f.gl' hg) o1 hs.1 hs.2 sA
   ·split at h
    ·rename_i hb;split at h
     ·rename_i hi;subst hi;split at h
      ·rename_i e0 t pt;split at h
       ·rename_i hc;simp only[Bool.and_eq_true]at hc;obtain⟨t1,t2,t3⟩:=Q4 hc.1.1;split at h
        ·rename_i a' t' ea et;cases h;obtain⟨b1,b2⟩:=qAd et;simp only[List.all_cons,Bool.and_eq_true]at hs;exact qBV b2 (f.gl' hg) (f.blt _ hb) (f.gl' hc.1.2) (f.blt _ hc.2) b1 t3 t1 hs.1 (iE _ _ _ ea X f).1
        ·cases h
       ·cases h
      ·cases h
     ·split at h
      ·rename_i hl;obtain⟨rfl,_⟩:=hl;split at h
       ·rename_i r pr e0 pc;split at h
        ·rename_i hc;simp only[Bool.and_eq_true,vY]at hc;obtain⟨⟨⟨⟨c1,c2⟩,c3⟩,c4⟩,rfl⟩:=hc;obtain⟨a',ea,rfl⟩:=Option.map_eq_some_iff.mp h;exact qAW f.calm (f.gl' hg) (f.blt _ hb) (f.gl' c2) (f.blt _ c3) c4 (iE _ _ _ ea X f).1
        ·cases h
       ·cases h
      rename_i hneg;clear hneg;split at h
      ·rename_i b e es eb;obtain⟨as,ea,rfl⟩:=Option.map_eq_some_iff.mp h;have sA:=iA _ _ _ ea hs X f;simp only[List.all_cons,Bool.and_eq_true]at hs;exact qBe f.calm f.hu f.gd (f.gl' hg) (f.blt _ hb) (qAn eb) hs.1 hs.2 sA o3 o1
      ·cases h
    ·cases h
  ·intro Γ o as h X f;cases o with
   |none=>simp only[trO]at h;cases h;exact qAg
   |some e=>
    simp only[trO]at h;obtain⟨a,ea,rfl⟩:=Option.map_eq_some_iff.mp h;exact z9 (iE _ _ _ ea X f).1
  ·intro Γ ifs as h X f;cases ifs with
   |nil=>simp only[qA0]at h;cases h;exact qBo
   |cons e r=>
    cases r with
    |nil=>
     simp only[qA0]at h;obtain⟨a,ea,rfl⟩:=Option.map_eq_some_iff.mp h;exact qB2 (iE _ _ _ ea X f).2
    |cons b r=>simp only[qA0]at h;cases h
  ·intro Γ tg iter it h X f;unfold trI at h;split at h
   ·rename_i fn p args pos;split at h
    ·rename_i hf;subst hf;split at h
     ·rename_i hc;simp only[Bool.and_eq_true]at hc;split at h
      ·rename_i e;obtain⟨a,ea,rfl⟩:=Option.map_eq_some_iff.mp h;have hs:=hc.2;simp only[List.all_cons,Bool.and_eq_true]at hs;exact qAf (f.gl' hc.1.1) (f.blt _ hc.1.2) hs.1 (iE _ _ _ ea X f).1
      ·rename_i e e2;split at h
       ·rename_i a' b' ea eb;cases h;have hs:=hc.2;simp only[List.all_cons,Bool.and_eq_true]at hs;exact v6 (f.gl' hc.1.1) (f.blt _ hc.1.2) hs.1 hs.2.1 (iE _ _ _ ea X f).1 (iE _ _ _ eb X f).1
       ·cases h
      ·cases h
     ·cases h
    ·split at h
     ·rename_i hf;subst hf;split at h
      ·rename_i hc;simp only[Bool.and_eq_true]at hc;split at h
       ·split at h
        ·rename_i a' b' ea eb;cases h;have hs:=hc.2;simp only[List.all_cons,Bool.and_eq_true]at hs;exact qBX (f.gl' hc.1.1) (f.blt _ hc.1.2) hs.1 hs.2.1 (iE _ _ _ ea X f).1 (iE _ _ _ eb X f).1
        ·cases h
       ·cases h
      ·cases h
     ·obtain⟨a,ea,rfl⟩:=Option.map_eq_some_iff.mp h;exact Q6 (iE _ _ _ ea X f).1
   ·obtain⟨a,ea,rfl⟩:=Option.map_eq_some_iff.mp h;exact Q6 (iE _ _ _ ea X f).1
end
open L2 (FnOk Fun qr Binds Room)
section
variable{G:List Addr}{F:Nat->List V->AH->RV}
theorem Zl{Γ:Gam}{X:Cx}(f:Fit Γ X G F)(hx:∀x,Γ.own x=true){n:Nat}{elt:Expr}{gens:List Comprehension}{scope:Scope}{cpos p pos:Pos}{a:E}{x:Str}{g:Tg}(hd:qEH a=true)(h:trE n Γ (.ListComp elt gens scope cpos)=some a)
  (hg:trT Γ (.Name x ⟨0,0,0,0⟩)=some g):SS X G F (.Assign [.Name x p] (.ListComp elt gens scope cpos) pos) (.asg g a):=by
 cases n with
 |zero=>unfold trE at h;cases h
 |succ n=>
  unfold trT at hg;dsimp only at hg;split at hg
  ·rename_i hs;obtain⟨i,ei,rfl⟩:=Option.map_eq_some_iff.mp hg;obtain⟨h1,h2⟩:=f.store hs;obtain⟨iE,iA,iB,iC,iO,iIf,iI⟩:=D3 (G:=G) (F:=F) n;unfold trE at h;dsimp only at h;split at h
   ·split at h;split at h
    ·split at h
     ·rename_i hc;simp only[Bool.and_eq_true]at hc;split at h
      ·rename_i it g c e' ei' eg ec ee;cases h;exact qAO f.calm (iI _ _ _ _ ei' X f) (jt f hc.1) (λC fp s H=>d9 (zw f hc.1 C fp s H) eg) (λC fp s H=>iIf _ _ _ ec _ (zw f hc.1 C fp s H)) (λC fp s H=>(iE _ _ _ ee _ (zw f hc.1 C fp s H)).1) (O3 hc.2) (by rw[f.hN];exact f.nd) (by rw[f.hN];exact jo ei) h1 h2
      ·cases h
     ·cases h
    ·cases h
   ·cases h
  ·cases hg
theorem U3(n:Nat):(∀ Γ st (X:Cx),Fit Γ X G F->(∀x,Γ.own x=true)->X.xe=(λ_ _=>False)->SS X G F st (trS n Γ st))/\(∀ Γ sts (X:Cx),Fit Γ X G F->(∀x,Γ.own x=true)->X.xe=(λ_ _=>False)->SSs X G F sts (V0 n Γ sts)):=by
 induction n with
 |zero=>
  refine⟨fun Γ st X f ho hx=>?_,fun Γ sts X f ho hx=>?_⟩
  ·unfold trS;exact qh
  ·unfold V0;intro pins s σ H D I q;obtain⟨φ,h,σa,o,h',R,rs,e,k⟩:=q;unfold exs ex at e;cases e
 |succ n ih=>
  obtain⟨i1,i2⟩:=ih;obtain⟨iE,iA,iB,iC,iO,iIf,iI⟩:=D3 (G:=G) (F:=F) 60;refine⟨fun Γ st X f ho hx=>?_,fun Γ sts X f ho hx=>?_⟩
  ·unfold trS;split
   ·split
    ·split
     ·rename_i v pos _ _ x p;split
      ·rename_i g a eg ea;split
       ·rename_i hd;by_cases hc:QU v=true
        ·refine JH (L2.ps_asg (iE _ _ _ ea X f).1 (d9 f (tg:=.Name x p) eg) (ZD hc) (by cases v<;>rfl) rfl) λ_ _ _=>U4
        ·cases v with
         |ListComp elt gens scope cpos=>exact Zl f ho hd ea eg
         |SetComp elt gens scope cpos=>unfold trE at ea;cases ea
         |DictComp k elt gens scope cpos=>unfold trE at ea;cases ea
         |_=>exact absurd rfl hc
       ·exact qh
      ·exact qh
     ·split
      ·rename_i hc;simp only[Bool.and_eq_true]at hc;split
       ·rename_i o' i' v' eo ei ev;exact qB7 f.hu (iE _ _ _ eo X f).1 (iE _ _ _ ei X f).1 (iE _ _ _ ev X f).1 hc.1 hc.2
       ·exact qh
      ·exact qh
     ·exact qh
    ·exact qh
   ·split
    ·rename_i hc;split
     ·rename_i a ea;exact qAS (iE _ _ _ ea X f).1 hc
     ·exact qh
    ·exact qh
   ·split
    ·split
     ·rename_i a ea;exact qBM (iE _ _ _ ea X f).1
     ·exact qh
    ·exact qh
   ·split
    ·rename_i a ea;exact qCX (iE _ _ _ ea X f).2 (i2 _ _ X f ho hx) (i2 _ _ X f ho hx)
    ·exact qh
   ·split
    ·split
     ·rename_i hs;split
      ·rename_i it g ei eg;exact qBl hx f.calm (iI _ _ _ _ ei X f) (d9 f eg) (i2 _ _ X f ho hx) (O3 hs)
      ·exact qh
     ·exact qh
    ·exact qh
   ·exact qh
  ·cases sts with
   |nil=>unfold V0;exact qAl
   |cons s r=>unfold V0;exact c6 (i1 _ _ X f ho hx) (i2 _ _ X f ho hx)
end
theorem len1{α:Type}{us:List α}(h:us.length=1):∃a,us=[a]:=List.length_eq_one_iff.mp h
theorem len2{α:Type}{us:List α}(h:us.length=2):∃a b,us=[a,b]:=by
 cases us with
 |nil=>cases h
 |cons a r=>obtain⟨b,rfl⟩:=len1 (us:=r) (by simpa using h);exact⟨a,b,rfl⟩
theorem len3{α:Type}{us:List α}(h:us.length=3):∃a b c,us=[a,b,c]:=by
 cases us with
 |nil=>cases h
 |cons a r=>obtain⟨b,c,rfl⟩:=len2 (us:=r) (by simpa using h);exact⟨a,b,c,rfl⟩
theorem len4{α:Type}{us:List α}(h:us.length=4):∃a b c d,us=[a,b,c,d]:=by
 cases us with
 |nil=>cases h
 |cons a r=>obtain⟨b,c,d,rfl⟩:=len3 (us:=r) (by simpa using h);exact⟨a,b,c,d,rfl⟩
theorem len5{α:Type}{us:List α}(h:us.length=5):∃a b c d e,us=[a,b,c,d,e]:=by
 cases us with
 |nil=>cases h
 |cons a r=>obtain⟨b,c,d,e,rfl⟩:=len4 (us:=r) (by simpa using h);exact⟨a,b,c,d,e,rfl⟩
structure B3 where
 x:Str
 st:Stmt
 ps:List Str
 N:List Str
structure Tbl where
 ds:List B3
 gl:List (Str×E)
 bl:List Str
 cls:List Str:=[]
 xr:List Str:=[]
noncomputable def Tbl.gam(T:Tbl)(d:B3):Gam:=⟨d.N,L2.defScope d.st,T.ds.map (·.x),T.gl,T.bl,λ_=>true,T.cls,T.xr.contains d.x⟩
noncomputable def Tbl.fn(T:Tbl)(d:B3):Fn:=⟨d.ps.length,d.N.length,V0 60 (T.gam d) (L2.defBody d.st)⟩
noncomputable def Tbl.fns(T:Tbl):List Fn:=T.ds.map T.fn
structure d8(K:PySem.W.Frag)(mg:Str->Option Value)(G:List Addr)(T:Tbl)(fa:List Addr)(fd:List FuncData):Prop where
 def_:∀(i:Nat) d,T.ds[i]?=some d->∃a f,fa[i]?=some a/\fd[i]?=some f/\Fun K d.x d.x d.st a f/\qr d.N d.ps (L2.defScope d.st)/\mg d.x=some (.ref a)/\Binds K f d.ps []
 gls:∀x e,T.gl.lookup x=some e->(∃v u,e=.cst v/\mg x=some u/\RelV v u/\∀φ,rv φ v v)\/(∃g a,e=.glob g/\mg x=some (.ref a)/\G[g]?=some a)
 blt:∀x,T.bl.contains x=true->mg x=none
 gtu:∀a∈G,∃o,K.lookup a=some o/\o.cls=.type "tuple"/\o.dict=none
theorem W4{φ:List Addr}{ws vs:List V}(r:rvs φ ws vs)(n:Nat):rst φ (ws.map some++List.replicate n none) (vs.map some++List.replicate n none):=by
 refine qO ?_ ?_
 ·induction r with
  |nil=>exact .nil
  |cons h t ih=>exact .cons ⟨_,rfl,h⟩ ih
 ·induction n with
  |zero=>exact .nil
  |succ n ih=>exact .cons trivial ih
section
variable{P:Program}{w:World}{K:PySem.W.Frag}{mg:Str->Option Value}{base:Heap}{G:List Addr}{T:Tbl}{fa:List Addr}{fd:List FuncData}
theorem qBv{k i:Nat}{d:B3}(h1:T.ds[i]?=some d){ws:List V}{h h':AH}{v:V}(e:Fk T.fns (k+1) i ws h=.ok (v,h')):ws.length=d.ps.length/\d.ps.length<=d.N.length/\∃o,exs (Fk T.fns k) (V0 60 (T.gam d) (L2.defBody d.st)) (ws.map some++List.replicate (d.N.length-d.ps.length) none) h=.ok (o,h')/\
  ((∃σ,o=.nx σ/\v=.non)\/o=.rt v):=by
 unfold Fk at e;have ht:T.fns[i]?=some (T.fn d):=by unfold Tbl.fns;rw[wP,h1];rfl
 rw[ht]at e;dsimp only at e;split at e
 ·rename_i hc;obtain⟨⟨o,h2⟩,e2,e⟩:=Res.bind_inv e;have e4:exs (Fk T.fns k) (V0 60 (T.gam d) (L2.defBody d.st)) (ws.map some++List.replicate (d.N.length-d.ps.length) none) h=.ok (o,h2):=e2;refine⟨hc.1,hc.2,o,?_,?_⟩
  ·cases o<;>cases e<;>exact e4
  ·cases o with
   |nx σ=>cases e;exact .inl ⟨σ,rfl,rfl⟩
   |rt u=>cases e;exact .inr rfl
   |bk σ=>cases e
   |ct σ=>cases e
 ·cases e
theorem qBK(O:d8 K mg G T fa fd){k:Nat}{d:B3}(f0:∀(i:Nat) d a f,T.ds[i]?=some d->fa[i]?=some a->fd[i]?=some f->FnOk P w K mg base L2.CX0 (2*k) a f d.ps (spF G (Fk T.fns k) K i))
  (hS:qr d.N d.ps (L2.defScope d.st)) (CX:L2.CXT) (a:Addr) (cdv:Value) (A:Around) (outer:List Env) (s:Shared) (H:Hp) (E:L2.XK) (E2:Value->Shared->Prop) (hr:Room (2*k+1) (A.deeper (envOfC d.x (L2.defScope d.st) s.heap.objs.size a cdv))):
  Fit (T.gam d) ((L2.cxOf CX P w K mg base d.N d.x (L2.defScope d.st) a cdv A outer s H E).wish E2) G (Fk T.fns k):=by
 have get:∀(g:Nat) x,(T.gam d).fns[g]?=some x->∃d2 a2 f2,T.ds[g]?=some d2/\d2.x=x/\fa[g]?=some a2/\fd[g]?=some f2/\mg x=some (.ref a2)/\PySem.W.keepIn K (.ref a2)=true/\Binds K f2 d2.ps []:=λg x eg=>by
  have eg':(T.ds.map (·.x))[g]?=some x:=eg;rw[wP]at eg';cases hd:T.ds[g]? with
  |none=>rw[hd]at eg';cases eg'
  |some d2=>
   rw[hd]at eg';cases eg';obtain⟨a2,f2,q1,q2,q3,q4,q5,q6⟩:=O.def_ g d2 hd;exact⟨d2,a2,f2,rfl,rfl,q1,q2,q5,q3.kp,q6⟩
 refine⟨rfl,hS.nd,rfl,rfl,λ_ _=>rfl,λg x eg=>?_,O.gls,O.blt,?_,hr.gd,O.gtu⟩
 ·obtain⟨d2,a2,f2,q1,rfl,q2,q3,q4,q5,q6⟩:=get g x eg;exact⟨2*k,a2,f2,d2.ps,f0 g d2 a2 f2 q1 q2 q3,hr.mono (Nat.le_succ _),q4,q5,q6,hr.in1⟩
 ·have:=hr.units;show (A.deeper (envOfC d.x (L2.defScope d.st) s.heap.objs.size a cdv)).units+8<cLine;omega
theorem F9(O:d8 K mg G T fa fd):∀(k:Nat) (i:Nat) d a f,T.ds[i]?=some d->fa[i]?=some a->fd[i]?=some f->FnOk P w K mg base L2.CX0 (2*k) a f d.ps (spF G (Fk T.fns k) K i)
 | 0=>λi d a f h1 h2 h3=>⟨(λvs H Q E h=>by obtain⟨_,_,_,_,_,_,_,e,_⟩:=h;unfold Fk at e;cases e),(λA outer s H args us vs Q E hr e0 hb r h=>by obtain⟨_,_,_,_,_,_,_,e,_⟩:=h;unfold Fk at e;cases e)⟩
 |k+1=>by
  have f0:=F9 O k;refine λi d a f h1 h2 h3=>?_;obtain⟨a',f',e1,e2,hF,hS,hm,hB⟩:=O.def_ i d h1;rw[h2]at e1;cases e1;rw[h3]at e2;cases e2;refine hF.ok hS (λvs H Q E h=>?_) (λcdv A outer s H vs Q E hr h=>?_)
  ·obtain⟨φ,h0,ws,v,h',R,r,e,_⟩:=h;rw[<-Paired.length r];exact(qBv h1 e).1
  ·obtain⟨φ,h0,ws,v,h',R,r,e,kk⟩:=h;obtain⟨l1,l2,o,eo,ho⟩:=qBv h1 e;have fit:=qBK O f0 hS L2.CX0 a cdv A outer s H E (λ_ _=>False) hr;refine⟨_,(U3 (G:=G) (F:=Fk T.fns k) 60).2 (T.gam d) (L2.defBody d.st) _ fit (λ_=>rfl) rfl,φ,h0,_,o,h',R,?_,eo,λφ' H' x' R'=>?_⟩
   ·unfold L2.start;rw[<-Paired.length r,l1];exact W4 r _
   ·rcases ho with⟨σ,rfl,rfl⟩|rfl
    ·exact λσc _=>kk φ' H' .non x' R' trivial
    ·exact λu ru=>kk φ' H' u x' R' ru
end
noncomputable def a4(K:PySem.W.Frag):L2.Sp:=λvs H Q _=>∃(a:Addr) (ns:List Int),vs=[.ref a]/\L2.Only H/\SqL K H a (ns.map V.int)/\ns.length<=63/\∀H',Q (.bl true) H'
noncomputable def Ji(gs:List O)(ns:List Int):AH:=gs++[.lst true (ns.map V.int)]
def E9(K:PySem.W.Frag):List Addr->List O->Prop
 | [],[]=>True
 |a::as,.tup xs::os=>(SqT K (λ_=>none) a xs/\xs.all flat=true)/\E9 K as os
 |_,_=>False
theorem Zn{φ:List Addr}:∀{xs:List V},xs.all flat=true->rvs φ xs xs
 | [],_=>.nil
 |x::xs,h=>by
  simp only[List.all_cons,Bool.and_eq_true]at h;refine .cons ?_ (Zn h.2);cases x<;>first|rfl|exact trivial|(cases h.1)
theorem Y7{K:PySem.W.Frag}{H:Hp}{a:Addr}{xs:List V}(q:SqT K (λ_=>none) a xs):SqT K H a xs:=by
 rcases q with(h|⟨o,h⟩)|h
 ·cases h
 ·cases h
 ·exact .inr h
theorem ZK{K:PySem.W.Frag}:∀{as:List Addr}{os:List O},E9 K as os->as.length=os.length/\∀(i:Nat) o a,os[i]?=some o->as[i]?=some a->∃xs,o=.tup xs/\SqT K (λ_=>none) a xs/\xs.all flat=true
 | [],[],_=>⟨rfl,λi o a h=>by simp at h⟩
 | [],_::_,h=>False.elim h
 |_::_,[],h=>False.elim h
 |a::as,.lst _ _::os,h=>False.elim h
 |a::as,.tup xs::os,h=>by
  obtain⟨h1,h2⟩:=h;obtain⟨l,k⟩:=ZK h2;refine⟨by simp[l],λi o b e1 e2=>?_⟩;cases i with
  |zero=>simp at e1 e2;subst e1 e2;exact⟨xs,rfl,h1⟩
  |succ i=>exact k i o b (by simpa using e1) (by simpa using e2)
theorem S8{P:Program}{w:World}{K:PySem.W.Frag}{mg:Str->Option Value}{base:Heap}{G:List Addr}{gs:List O}{T:Tbl}{fa:List Addr}{fd:List FuncData}(O:d8 K mg G T fa fd)(hG:E9 K G gs){k i:Nat}{d:B3}{a:Addr}{f:FuncData}
  (h1:T.ds[i]?=some d) (h2:fa[i]?=some a) (h3:fd[i]?=some f) (hp:d.ps=(["_law_script"]:List Str)) (main:∀ns:List Int,ns.length<=63->∃h',Fk T.fns k i [.ref gs.length] (Ji gs ns)=.ok (.bl true,h')):
  FnOk P w K mg base L2.CX0 (2*k) a f (["_law_script"]:List Str) (a4 K):=by
 have F:=F9 (P:=P) (w:=w) (base:=base) O k i d a f h1 h2 h3;rw[hp]at F;refine⟨λvs H Q E h=>by obtain⟨b,ns,rfl,_⟩:=h;rfl,λA outer s H args us vs Q E hr e0 hb r h=>?_⟩;obtain⟨b,ns,rfl,hO,hS,hl,q⟩:=h;obtain⟨h',e⟩:=main ns hl;obtain⟨lg,kg⟩:=ZK hG;refine F.run A outer s H args us _ Q E hr e0 hb r ⟨G++[b],Ji gs ns,[.ref gs.length],.bl true,h',⟨by unfold Ji;simp[lg],⟨[b],rfl⟩,λj o c e1 e2=>?_,λj l xs ys c e1 e2 e3 e4=>?_⟩,.cons (by show (G++[b])[gs.length]?=some b;rw[<-lg];simp) .nil,e,λφ' H' u x' R' ru=>by rw[zB ru];exact q H'⟩
 ·unfold Ji at e1;by_cases hj:j<gs.length
  ·rw[List.getElem?_append_left hj]at e1;rw[List.getElem?_append_left (by omega)]at e2;obtain⟨xs,rfl,h5,h6⟩:=kg j o c e1 e2;exact⟨xs,Y7 h5,Zn h6⟩
  ·have hj':j=gs.length:=by
    have:=(List.getElem?_eq_some_iff.mp e1).1;simp at this;omega
   subst hj';simp at e1;rw[<-lg]at e2;simp at e2;subst e1 e2;refine⟨ns.map V.int,?_,Zn (T8 ns)⟩;rcases hS with(z|⟨ob,z⟩)|z
   ·rcases hO b with y|⟨ob,xs,y⟩<;>(rw[y]at z;cases z)
   ·exact .inl ⟨ob,z⟩
   ·exact .inr (.inr z)
 ·have no:∀{m:Nat}{z:PI.O},z.mu=true->(Ji gs ns)[m]?=some z->False:=λ{m zs} mz em=>by
   unfold Ji at em;by_cases hj:m<gs.length
   ·rw[List.getElem?_append_left hj]at em;obtain⟨xs,ex,_⟩:=kg m _ (G[m]'(by omega)) em (wA (by omega));subst ex;cases mz
   ·have hj':m=gs.length:=by
     have:=(List.getElem?_eq_some_iff.mp em).1;simp at this;omega
    subst hj';simp at em;subst em;cases mz
  exact(no ‹_› ‹_›).elim
open L2
abbrev qBj(K:PySem.W.Frag)(d:B3):Prop:=∃(f:Addr) (oc:Value) (od an:Option Addr) (sl:Array (Option Value)) (kV dc pm cd ct:Value),PySem.W.nsIn K mainGlobals d.x=some (some (.ref f))/\K.lookup f=some ⟨oc,od,.func (PySem.W.fnOf d.x d.x (zF d.st) (defBody d.st) (defScope d.st) .none kV dc pm an cd ct),sl⟩/\PySem.W.codeIn K cd d.x=true/\PySem.W.keepIn K (.ref f)=true
structure l7(d:B3):Prop where
 sc:qr d.N d.ps (defScope d.st)
 bd:∀(kV doc pm:Value) (an:Option Addr) (cdv ct:Value) (us:List Value),us.length=d.ps.length->bindArgs (PySem.W.fnOf d.x d.x (zF d.st) (defBody d.st) (defScope d.st) .none kV doc pm an cdv ct) ⟨us,[]⟩=pure (d.ps.zip us)
theorem m5{K:PySem.W.Frag}{h:Heap}{mg:Str->Option Value}(X:K.In h)(G:h.Ns mainGlobals mg):∀(ds:List B3),(∀d∈ds,qBj K d)->(∀d∈ds,l7 d)->∃(fa:List Addr) (fd:List FuncData),∀(i:Nat) d,ds[i]?=some d->∃a f,fa[i]?=some a/\fd[i]?=some f/\Fun K d.x d.x d.st a f/\qr d.N d.ps (L2.defScope d.st)/\mg d.x=some (.ref a)/\Binds K f d.ps []
 | [],_,_=>⟨[],[],λi d h=>by simp at h⟩
 |d::ds,h,hk=>by
  obtain⟨fa,fd,k⟩:=m5 X G ds (λx hx=>h x (by simp[hx])) λx hx=>hk x (by simp[hx]);obtain⟨f,oc,od,an,sl,kV,dc,pm,cd,ct,h1,h2,h3,h4⟩:=h d (by simp);have hd:=hk d (by simp);refine⟨f::fa,PySem.W.fnOf d.x d.x (zF d.st) (defBody d.st) (defScope d.st) .none kV dc pm an cd ct::fd,λi e he=>?_⟩;cases i with
  |zero=>cases he;exact⟨_,_,rfl,rfl,i9 h2 h3 h4,hd.sc,PySem.W.mg_of X G h1,(i9 h2 h3 h4).binds hd.bd⟩
  |succ i=>exact k i e he
theorem qD1{K:PySem.W.Frag}{d:B3}{a:Addr}{f:FuncData}{x:Str}(F:Fun K d.x d.x d.st a f)(h:l7 d)(hp:d.ps=[x])(s:Shared)(v:Value):BindsTo s f ⟨[v],[]⟩ [(x,v)]:=by
 obtain⟨oc,od,kV,doc,pm,an,cdv,ct,osl,rfl,lk,hcd⟩:=F.ex;refine .of_eq ?_;rw[h.bd kV doc pm an cdv ct [v] (by rw[hp];rfl),hp];rfl
inductive T where
 |v (x:V)|cell (n:Nat)|fz (xs:List T)|lst (xs:List T)|tup (xs:List T)|ob (o:Ob)
noncomputable abbrev Mem:=List (List T)
noncomputable abbrev TS:=List (Option T)
inductive PR(α:Type)|ok(a:α)|exc(c:Nat)(M:Mem)|stuck
noncomputable def PR.bind{α β:Type}:PR α->(α->PR β)->PR β
 | .ok a,f=>f a
 | .exc c M,_=>.exc c M
 | .stuck,_=>.stuck
@[simp] theorem PR.bind_ok{α β:Type}(a:α)(f:α->PR β):(PR.ok a).bind f=f a:=Eq.trans rfl rfl
@[simp] theorem PR.bind_stuck{α β:Type}(f:α->PR β):(PR.stuck:PR α).bind f=.stuck:=Eq.trans rfl rfl
noncomputable def PR.nx{α:Type}:PR α->PR α
 | .ok a=>.ok a
 | .exc _ _=>.stuck
 | .stuck=>.stuck
@[simp] theorem PR.nx_ok{α:Type}(a:α):(PR.ok a).nx=.ok a:=Eq.trans rfl rfl
@[simp] theorem PR.nx_stuck{α:Type}:(PR.stuck:PR α).nx=.stuck:=Eq.trans rfl rfl
noncomputable def PR.ofO{α:Type}:Option α->PR α
 |some a=>.ok a
 |none=>.stuck
@[simp] theorem PR.ofO_some{α:Type}(a:α):PR.ofO (some a)=.ok a:=Eq.trans rfl rfl
mutual
noncomputable def T.lf:T->Bool
 | .v _=>true
 | .ob (.exn _)=>true
 | .tup ts=>T.lfs ts
 |_=>false
noncomputable def T.lfs:List T->Bool
 | []=>true
 |t::ts=>T.lf t&&T.lfs ts
end
mutual
noncomputable def T.und(n:Nat):T->Bool
 | .v _=>true
 | .ob _=>true
 | .cell k=>decide (k<n)
 | .fz ts=>T.unds n ts
 | .lst ts=>T.unds n ts
 | .tup ts=>T.unds n ts
noncomputable def T.unds(n:Nat):List T->Bool
 | []=>true
 |t::ts=>T.und n t&&T.unds n ts
end
mutual
noncomputable def T.beq:T->T->Bool
 | .v x,.v y=>decide (x=y)
 | .cell x,.cell y=>decide (x=y)
 | .fz x,.fz y=>T.beqs x y
 | .lst x,.lst y=>T.beqs x y
 | .tup x,.tup y=>T.beqs x y
 | .ob x,.ob y=>decide (x=y)
 |_,_=>false
noncomputable def T.beqs:List T->List T->Bool
 | [],[]=>true
 |x::xs,y::ys=>T.beq x y&&T.beqs xs ys
 |_,_=>false
end
noncomputable abbrev QC:=List (Nat×List T)
noncomputable def qY(d:QC)(M:Mem):Bool:=d.all λp=>match M[p.1]? with|some ts=>T.beqs ts p.2|none=>false
noncomputable def T.its(M:Mem):T->Option (List T)
 | .lst xs=>some xs | .tup xs=>some xs | .fz xs=>some xs | .cell n=>M[n]? | _=>none
noncomputable def T.lis(M:Mem):T->Option (List T)
 | .lst xs=>some xs | .fz xs=>some xs | .cell n=>M[n]? | _=>none
noncomputable def T.mu(M:Mem):T->Option (List T)
 | .lst xs=>some xs | .cell n=>M[n]? | _=>none
noncomputable def za:List T->Option (List Int)
 | []=>some []
 | .v (.int i)::r=>(za r).map (i::·)
 |_::_=>none
noncomputable def jJ:List T->Option (List Int)
 | []=>some []
 | .v (.int i)::r=>(jJ r).map (i::·)
 | .v (.bl b)::r=>(jJ r).map ((if b=true then 1 else 0)::·)
 |_=>none
noncomputable def zH:List T->Option (List Bool)
 | []=>some []
 | .v (.bl i)::r=>(zH r).map (i::·)
 |_::_=>none
noncomputable def jQ:List T->Option (List V)
 | []=>some []
 | .v x::r=>(jQ r).map (x::·)
 |_::_=>none
noncomputable def zh(f:T->T->Option Bool):List T->List T->Option (List Bool)
 | [],[]=>some []
 |x::xs,y::ys=>match f x y,zh f xs ys with
  |some b,some bs=>some (b::bs)
  |_,_=>none
 |_,_=>none
noncomputable def T.isV:T->Option V | .v x=>some x|_=>none
noncomputable def eqT(M:Mem):Nat->T->T->Option Bool
 | 0,s,t=>match s.isV,t.isV with|some x,some y=>eqF x y|_,_=>none
 |n+1,s,t=>match s.isV,t.isV with
  |some x,some y=>eqF x y
  |some _,none=>if (t.its M).isSome then some false else none
  |none,some _=>if (s.its M).isSome then some false else none
  |none,none=>match s.lis M,t.lis M with
   |some xs,some ys=>if xs.length=ys.length then (zh (eqT M n) xs ys).map λbs=>bs.all id else some false
   |some _,none=>if (t.its M).isSome then some false else none
   |none,some _=>if (s.its M).isSome then some false else none
   |none,none=>match s.its M,t.its M with
    |some xs,some ys=>if xs.length=ys.length then (zh (eqT M n) xs ys).map λbs=>bs.all id else (zh (eqT M n) (xs.take ys.length) (ys.take xs.length)).map λ_=>false
    |_,_=>none
noncomputable def QB(xs:List T)(lo hi:Option Int):List T:=(xs.drop (HT.sIx xs.length 0 lo)).take (HT.sIx xs.length xs.length hi-HT.sIx xs.length 0 lo)
noncomputable abbrev TB:=T×Bool
noncomputable def iT(i:Int):TB:=(.v (.int i),true)
noncomputable def bT(b:Bool):TB:=(.v (.bl b),true)
noncomputable def lT(xs:List T):TB:=(.lst xs,T.lfs xs)
noncomputable def Z7(x:T)(xs:List T)(lo hi:Option Int):Option TB:=match x with
 | .tup _=>if HT.sIx xs.length 0 lo=0/\HT.sIx xs.length xs.length hi=xs.length then none else some (.tup (QB xs lo hi),T.lfs (QB xs lo hi))
 |_=>some (lT (QB xs lo hi))
noncomputable def qk(M:Mem)(op:BOp)(x y:T):Option TB:=match x.isV,y.isV with
 |some (.int i),some (.int j)=>match op with
  | .add=>some (iT (i+j))
  | .sub=>some (iT (i-j))
  | .mul=>if QH i||QH j||(mid i&&mid j) then some (iT (i*j)) else none
  | .fdiv=>if 0<j/\(j<1073741824\/mid j=true) then some (iT (i / j)) else if j<0/\mid j=true then some (iT (i.fdiv j)) else none
  | .mod=>if 0<j then some (iT (i % j)) else if j<0 then some (iT (i.fmod j)) else none
  | .pow=>if 0<=j/\j<=1000/\i.natAbs<18446744073709551616 then some (iT (i ^ j.toNat)) else none
  | .band=>some (iT (PySem.Builtin.bitAnd i j))
 |none,some (.int k)=>match op with
  | .mul=>(x.mu M).bind λxs=>if 0<=k/\xs.length*k.toNat<=lim/\k<1000000 then some (lT (List.replicate k.toNat xs).flatten) else none
  |_=>none
 |none,none=>match op with
  | .add=>(match x,y with
   | .tup xs,.tup ys=>if xs≠[]/\xs.length+ys.length<=lim then some (.tup (xs++ys),T.lfs (xs++ys)) else none
   |x,y=>(x.mu M).bind λxs=>(y.mu M).bind λys=>if xs.length+ys.length<=lim then some (lT (xs++ys)) else none)
  |_=>none
 |_,_=>none
noncomputable def T.dct:T->Option (List (Int×V))
 | .ob (.dct kvs)=>some kvs
 |_=>none
noncomputable def inT(M:Mem)(x y:T):Option Bool:=match y.dct with
 |some kvs=>(match x with | .v (.int i)=>some (qA1 kvs i)|_=>none)
 |none=>x.isV.bind λa=>(y.its M).bind λts=>(jQ ts).map λxs=>xs.any λz=>L2.eqV z a
noncomputable def qo(M:Mem)(op:COp)(x y:T):Option Bool:=match op with
 | .eq=>eqT M 4 x y
 | .ne=>(eqT M 4 x y).map (!·)
 | .inn=>inT M x y
 | .notin=>(inT M x y).map (!·)
 | .is=>match y.isV with|some .non=>some (match x.isV with|some .non=>true|_=>false)|some (.bl d)=>(match x.isV with|some (.bl c)=>some (c==d)|_=>none)|_=>none
 | .isnot=>match y.isV with|some .non=>some (match x.isV with|some .non=>false|_=>true)|some (.bl d)=>(match x.isV with|some (.bl c)=>some (!(c==d))|_=>none)|_=>none
 | .lt=>match x.isV,y.isV with|some (.int i),some (.int j)=>some (decide (i<j))|_,_=>none
 | .le=>match x.isV,y.isV with|some (.int i),some (.int j)=>some (decide (i<=j))|_,_=>none
 | .gt=>match x.isV,y.isV with|some (.int i),some (.int j)=>some (decide (j<i))|_,_=>none
 | .ge=>match x.isV,y.isV with|some (.int i),some (.int j)=>some (decide (j<=i))|_,_=>none
noncomputable def W5(as:List T)(f:T->Option TB):Option TB:=match as with
 | [a]=>f a
 |_=>none
theorem zS{as:List T}{f:T->Option TB}{r:TB}(e:W5 as f=some r):∃a,as=[a]/\f a=some r:=by
 unfold W5 at e;split at e
 ·exact⟨_,rfl,e⟩
 ·cases e
noncomputable def twoT(as:List T)(f:Int->Int->Option TB):Option TB:=match as with
 | [a,b]=>(match a with
  | .v (.int i)=>(match b with | .v (.int j)=>f i j|_=>none)
  |_=>none)
 |_=>none
theorem twoT_inv{as:List T}{f:Int->Int->Option TB}{r:TB}(e:twoT as f=some r):∃i j,as=[.v (.int i),.v (.int j)]/\f i j=some r:=by
 unfold twoT at e;split at e
 ·split at e
  ·split at e
   ·exact⟨_,_,rfl,e⟩
   ·cases e
  ·cases e
 ·cases e
noncomputable def zO(f:T->Option PySem.PyData):List T->Option (List PySem.PyData)
 | []=>some []
 |x::r=>(f x).bind λd=>(zO f r).map λds=>d::ds
noncomputable def Jq(M:Mem):Nat->T->Option PySem.PyData
 | 0,t=>match t with | .v x=>j0 x|_=>none
 |n+1,t=>match t with
  | .v x=>j0 x
  | .tup ts=>(zO (Jq M n) ts).map .tuple
  | .lst ts=>(zO (Jq M n) ts).map .list
  | .fz ts=>(zO (Jq M n) ts).map .list
  | .cell k=>(M[k]?).bind λts=>(zO (Jq M n) ts).map .list
  | .ob (.dct [])=>some (.dict [])
  | .ob _=>none
noncomputable def jX(M:Mem)(t:T):Option PySem.PyData:=Jq M 4 t
noncomputable def X6(M:Mem)(t:T):Option PySem.PyData:=Jq M 5 t
noncomputable def zi(M:Mem):BF->List T->Option TB
 | .len,as=>W5 as λa=>(a.its M).map λxs=>iT xs.length
 | .sum,as=>W5 as λa=>(a.lis M).bind λxs=>(jJ xs).map λis=>iT is.sum
 | .all,as=>W5 as λa=>(a.lis M).bind λxs=>(zH xs).map λbs=>bT (bs.all id)
 | .any,as=>W5 as λa=>(a.lis M).bind λxs=>(zH xs).map λbs=>bT (bs.any id)
 | .max,as=>twoT as λi j=>some (iT (if j>i then j else i))
 | .min,as=>twoT as λi j=>some (iT (if j<i then j else i))
 | .list,as=>W5 as λa=>(a.its M).map lT
 | .int,as=>W5 as λa=>(match a with | .v (.int i)=>some (iT i) | .v (.bl b)=>some (iT (if b then 1 else 0))|_=>none)
 | .bits,as=>W5 as λa=>(match a with | .v (.int i)=>some (iT ((PySem.Builtin.Int.intBits i:Nat):Int))|_=>none)
 | .repr,as=>W5 as λa=>((X6 M a).bind Qz).map λv=>(.v v,true)
noncomputable def T.isC(n:Nat):T->Bool | .cell k=>decide (k=n)|_=>false
noncomputable def N9:Mt->Nat->List T->Mem->Option (TB×Mem)
 | .pop,n,[],M=>(M[n]?).bind λxs=>(xs[xs.length-1]?).map λy=>((y,y.lf),M.set n xs.dropLast)
 | .popAt,n,[.v (.int i)],M=>(M[n]?).bind λxs=>if xs.length<=lim then (ixN xs.length i).bind λk=>(xs[k]?).map λy=>((y,y.lf),M.set n (xs.eraseIdx k)) else none
 | .rev,n,[],M=>(M[n]?).map λxs=>((.v .non,true),M.set n xs.reverse)
 | .clr,n,[],M=>(M[n]?).map λ_=>((.v .non,true),M.set n [])
 | .ins,n,[.v (.int i),t],M=>(M[n]?).bind λxs=>if 0<=i/\i<=xs.length/\xs.length<lim then some ((.v .non,true),M.set n (xs.take i.toNat++t::xs.drop i.toNat)) else none
 |_,_,_,_=>none
noncomputable def zN(M:Mem):T->Option String
 | .v .non=>some "NoneType"
 | .v (.bl _)=>some "bool"
 | .v (.int _)=>some "int"
 | .v (.str _)=>some "str"
 | .v _=>none
 | .tup _=>some "tuple"
 | .cell n=>(M[n]?).map λ_=>"list"
 | .ob (.dct _)=>some "dict"
 | .ob _=>none
 |_=>some "list"
noncomputable def T.tx:T->Option PySem.Str
 | .v (.str y)=>some y
 |_=>none
noncomputable def JF(M:Mem)(x y:T):Option TB:=match y with
 | .v (.int i)=>(x.its M).bind λxs=>(ixN xs.length i).bind λj=>(xs[j]?).map λt=>(t,t.lf)
 |_=>none
noncomputable def qB8:List Nat->List T->TS->Option TS
 | [],[],σ=>some σ
 |i::is,x::xs,σ=>qB8 is xs (σ.set i (some x))
 |_,_,_=>none
noncomputable def zR:Tg->T->TS->Option TS
 | .name i,t,σ=>some (σ.set i (some t))
 | .tup is,.tup ts,σ=>qB8 is ts σ
 | .tup _,_,_=>none
noncomputable def zu(src:List (Option Nat))(σ:TS):TS:=src.map λo=>match o with|none=>none|some j=>(σ[j]?).join
noncomputable def qf(lo:Int)(n:Nat):List T:=(List.range n).map λ(i:Nat)=>.v (.int (lo+(i:Int)))
noncomputable def L0(M:Mem):T->Option (List T×QC)
 | .lst ts=>some (ts,[])
 | .fz ts=>some (ts,[])
 | .tup ts=>some (ts,[])
 | .cell n=>(M[n]?).map λts=>(ts,[(n,ts)])
 |_=>none
noncomputable def W8(M:Mem):T->Option (List T×QC)
 | .lst ts=>some (ts,[])
 | .fz ts=>some (ts,[])
 | .cell n=>(M[n]?).map λts=>(ts,[(n,ts)])
 |_=>none
noncomputable def qb(d:QC)(g:Tg)(c:TS->Mem->PR (Bool×Mem))(e:TS->Mem->PR (TB×Mem)):List T->List T->Bool->TS->Mem->PR (TB×Mem)
 | [],ys,f,_,M=>.ok ((.lst ys,f),M)
 |x::r,ys,f,σ,M=>match zR g x σ with
  |some σ1=>(c σ1 M).bind λ(b,M2)=>
   if b then (e σ1 M2).bind λ(y,M3)=>if ys.length<lim/\qY d M3=true then qb d g c e r (ys++[y.1]) (f&&y.2) σ1 M3 else .stuck
   else if qY d M2=true then qb d g c e r ys f σ1 M2 else .stuck
  |none=>.stuck
noncomputable def pB(r:PR (TB×Mem)):PR (Bool×Mem):=r.bind λ(x,M)=>match x.1 with | .v (.bl b)=>.ok (b,M)|_=>.stuck
section
variable (gl:List T)(P:Nat->List T->Mem->PR (TB×Mem))
mutual
noncomputable def pe:E->TS->Mem->PR (TB×Mem)
 | .var i=>λσ M=>match σ[i]? with|some (some t)=>.ok ((t,t.lf),M)|_=>.stuck
 | .cst v=>λ_ M=>if flat v then .ok ((.v v,true),M) else .stuck
 | .glob g=>λ_ M=>match gl[g]? with|some t=>.ok ((t,t.lf),M)|none=>.stuck
 | .bin op a b=>λσ M=>(pe a σ M).bind λ(x,M1)=>(pe b σ M1).bind λ(y,M2)=>(PR.ofO (qk M2 op x.1 y.1)).bind λr=>.ok (r,M2)
 | .neg a=>λσ M=>(pe a σ M).bind λ(x,M1)=>match x.1 with | .v (.int i)=>.ok (iT (-i),M1)|_=>.stuck
 | .cmp op a b=>λσ M=>(pe a σ M).bind λ(x,M1)=>(pe b σ M1).bind λ(y,M2)=>(PR.ofO (qo M2 op x.1 y.1)).bind λr=>.ok (bT r,M2)
 | .cmp2 o1 o2 a b c=>λσ M=>(pe a σ M).bind λ(x,M1)=>(pe b σ M1).bind λ(y,M2)=>(PR.ofO (qo M2 o1 x.1 y.1)).bind λr=>
  if r then (pe c σ M2).bind λ(z,M3)=>(PR.ofO (qo M3 o2 y.1 z.1)).bind λr=>.ok (bT r,M3) else .ok (bT false,M2)
 | .and a b=>λσ M=>(pB (pe a σ M)).bind λ(x,M1)=>if x then pe b σ M1 else .ok (bT false,M1)
 | .or a b=>λσ M=>(pB (pe a σ M)).bind λ(x,M1)=>if x then .ok (bT true,M1) else pe b σ M1
 | .not a=>λσ M=>(pB (pe a σ M)).bind λ(x,M1)=>.ok (bT (!x),M1)
 | .ite c a b=>λσ M=>(pB (pe c σ M)).bind λ(x,M1)=>if x then pe a σ M1 else pe b σ M1
 | .call f as=>λσ M=>(pes as σ M).bind λ(xs,M1)=>(P f (xs.map (·.1)) M1).nx
 | .blt f as=>λσ M=>(pes as σ M).bind λ(xs,M1)=>(PR.ofO (zi M1 f (xs.map (·.1)))).bind λr=>.ok (r,M1)
 | .isi a ts=>λσ M=>(pe a σ M).bind λ(x,M1)=>(PR.ofO (zN M1 x.1)).bind λt=>.ok (bT (ts.any (zY t)),M1)
 | .idx a b=>λσ M=>(pe a σ M).bind λ(x,M1)=>(pe b σ M1).bind λ(y,M2)=>(PR.ofO (JF M2 x.1 y.1)).bind λr=>.ok (r,M2)
 | .sl a lo hi=>λσ M=>(pe a σ M).bind λ(x,M1)=>(pes lo σ M1).bind λ(l,M2)=>(pes hi σ M2).bind λ(u,M3)=>
  (PR.ofO (x.1.its M3)).bind λxs=>(PR.ofO (za (l.map (·.1)))).bind λl=>(PR.ofO (za (u.map (·.1)))).bind λu=>(PR.ofO (Z7 x.1 xs l.head? u.head?)).bind λr=>.ok (r,M3)
 | .lst as=>λσ M=>(pes as σ M).bind λ(xs,M1)=>if xs.length<=lim then .ok ((.lst (xs.map (·.1)),xs.all (·.2)),M1) else .stuck
 | .tup as=>λσ M=>(pes as σ M).bind λ(xs,M1)=>if xs.length<=lim then .ok ((.tup (xs.map (·.1)),xs.all (·.2)),M1) else .stuck
 | .comp it src g c e=>λσ M=>(pei it σ M).bind λ(s,M1)=>qb s.2 g (pec c) (pe e) s.1 [] true (zu src σ) M1
 | .app a b=>λσ M=>(pe a σ M).bind λ(x,M1)=>match x.1 with
  | .cell n=>(pe b σ M1).bind λ(y,M2)=>match M2[n]? with
   |some xs=>if xs.length<lim then .ok ((.v .non,true),M2.set n (xs++[y.1])) else .stuck
   |none=>.stuck
  |_=>.stuck
 | .lrng a=>λσ M=>(pe a σ M).bind λ(x,M1)=>match x.1 with | .v (.int j)=>if -1000000<=j/\j<=100000 then .ok ((.lst (qf 0 j.toNat),true),M1) else .stuck|_=>.stuck
 | .dnew=>λ_ M=>.ok ((.ob (.dct []),true),M)
 | .meth m a as=>λσ M=>(pe a σ M).bind λ(x,M1)=>match x.1 with
  | .cell n=>(pes as σ M1).bind λ(ys,M2)=>PR.ofO (N9 m n (ys.map (·.1)) M2)
  |_=>.stuck
noncomputable def pes:Es->TS->Mem->PR (List TB×Mem)
 | .nil=>λ_ M=>.ok ([],M)
 | .cons a as=>λσ M=>(pe a σ M).bind λ(x,M1)=>(pes as σ M1).bind λ(xs,M2)=>.ok (x::xs,M2)
noncomputable def pec:Es->TS->Mem->PR (Bool×Mem)
 | .nil=>λ_ M=>.ok (true,M)
 | .cons a _=>λσ M=>pB (pe a σ M)
noncomputable def pei:Itr->TS->Mem->PR ((List T×QC)×Mem)
 | .list a=>λσ M=>(pe a σ M).bind λ(x,M1)=>(PR.ofO (L0 M1 x.1)).bind λs=>.ok (s,M1)
 | .rng1 a=>λσ M=>(pe a σ M).bind λ(x,M1)=>match x.1 with | .v (.int j)=>if -1000000<=j/\j<=1000000 then .ok ((qf 0 j.toNat,[]),M1) else .stuck|_=>.stuck
 | .rng2 a b=>λσ M=>(pe a σ M).bind λ(x,M1)=>(pe b σ M1).bind λ(y,M2)=>match x.1,y.1 with
  | .v (.int i),.v (.int j)=>if (-1000000<=i/\i<=1000000)/\-1000000<=j/\j<=1000000 then .ok ((qf i (j-i).toNat,[]),M2) else .stuck
  |_,_=>.stuck
 | .zip a b=>λσ M=>(pe a σ M).bind λ(x,M1)=>(pe b σ M1).bind λ(y,M2)=>(PR.ofO (W8 M2 x.1)).bind λs=>(PR.ofO (W8 M2 y.1)).bind λt=>
  .ok ((List.zipWith (λa b=>T.tup [a,b]) s.1 t.1,s.2++t.2),M2)
end
inductive PO|nx(σ:TS)|rt(t:TB)|bk(σ:TS)|ct(σ:TS)
noncomputable abbrev RSt:=PR (PO×Mem)
noncomputable def zf(d:QC)(g:Tg)(b:TS->Mem->RSt):List T->TS->Mem->RSt
 | [],σ,M=>.ok (.nx σ,M)
 |x::r,σ,M=>match zR g x σ with
  |some σ1=>(b σ1 M).bind λ(o,M2)=>match o with
   | .nx σ2=>if qY d M2=true then zf d g b r σ2 M2 else .stuck
   | .ct σ2=>if qY d M2=true then zf d g b r σ2 M2 else .stuck
   | .bk σ2=>.ok (.nx σ2,M2)
   | .rt t=>.ok (.rt t,M2)
  |none=>.stuck
mutual
noncomputable def thaw(n:Nat):T->T×Mem
 | .lst ts=>let r:=jb n ts;(.cell (n+r.2.length),r.2++[r.1])
 | .tup ts=>let r:=jb n ts;(.tup r.1,r.2)
 |t=>(t,[])
noncomputable def jb(n:Nat):List T->List T×Mem
 | []=>([],[])
 |t::ts=>let r:=thaw n t;let q:=jb (n+r.2.length) ts;(r.1::q.1,r.2++q.2)
end
noncomputable def ptw:Es->TS->Mem->PR (List T×Mem)
 | .nil=>λ_ M=>.ok ([],M)
 | .cons a as=>λσ M=>(pe gl P a σ M).bind λ(x,M1)=>if x.2=true then (ptw as σ (M1++(thaw M1.length x.1).2)).bind λ(ts,M2)=>.ok ((thaw M1.length x.1).1::ts,M2) else (ptw as σ M1).bind λ(ts,M2)=>.ok (x.1::ts,M2)
noncomputable def qB4:E->Bool
 | .bin .add _ _=>true
 | .lst _=>true
 |_=>false
variable (C:List Nat)
mutual
noncomputable def px:S->TS->Mem->RSt
 | .asg g e=>λσ M=>(pe gl P e σ M).bind λ(x,M1)=>match g with
  | .name i=>if C.contains i&&x.2 then .ok (.nx (σ.set i (some (thaw M1.length x.1).1)),M1++(thaw M1.length x.1).2) else if C.contains (i+1000)&&qB4 e then (match x.1 with | .lst ts=>.ok (.nx (σ.set i (some (.cell M1.length))),M1++[ts])|_=>.stuck) else .ok (.nx (σ.set i (some x.1)),M1)
  |g=>match zR g x.1 σ with|some σ1=>.ok (.nx σ1,M1)|none=>.stuck
 | .put o i v=>λσ M=>(pe gl P v σ M).bind λ(x,M1)=>(pe gl P o σ M1).bind λ(p,M2)=>(pe gl P i σ M2).bind λ(k,M3)=>match p.1,k.1 with
  | .cell n,.v (.int k)=>match M3[n]? with
   |some xs=>match ixN xs.length k with|some j=>.ok (.nx σ,M3.set n (xs.set j x.1))|none=>.stuck
   |none=>.stuck
  |_,_=>.stuck
 | .expr e=>λσ M=>(pe gl P e σ M).bind λ(_,M1)=>.ok (.nx σ,M1)
 | .ret e=>λσ M=>(pe gl P e σ M).bind λ(x,M1)=>.ok (.rt x,M1)
 | .rett as=>λσ M=>(ptw gl P as σ M).bind λ(ts,M1)=>if ts.length<=lim then .ok (.rt (.tup ts,false),M1) else .stuck
 | .inl _ ns b as=>λσ M=>(ptw gl P as σ M).bind λ(ts,M1)=>if ts.length<=ns then (pxs b (ts.map some++List.replicate (ns-ts.length) none) M1).nx.bind λ(o,M2)=>(match o with | .nx _=>.ok (.rt (.v .non,true),M2) | .rt t=>.ok (.rt t,M2)|_=>.stuck) else .stuck
 | .ifs c t u=>λσ M=>(pB (pe gl P c σ M)).bind λ(x,M1)=>if x then pxs t σ M1 else pxs u σ M1
 | .for_ g it b=>λσ M=>(pei gl P it σ M).bind λ(s,M1)=>zf s.2 g (pxs b) s.1 σ M1
 | .stop=>λ_ _=>.stuck
noncomputable def pxs:Ss->TS->Mem->RSt
 | .nil=>λσ M=>.ok (.nx σ,M)
 | .cons s r=>λσ M=>(px s σ M).bind λ(o,M1)=>match o with
  | .nx σ1=>pxs r σ1 M1
  |o=>.ok (o,M1)
end
end
noncomputable def qH(M:Mem)(n0:Nat):Nat->T->Option T
 | 0,t=>if t.und n0 then some t else none
 |d+1,t=>if t.und n0 then some t else match t with
  | .lst ts=>(ts.mapM (qH M n0 d)).map .lst
  | .tup ts=>(ts.mapM (qH M n0 d)).map .tup
  | .cell n=>(M[n]?).bind λts=>(ts.mapM (qH M n0 d)).map .lst
  |_=>none
noncomputable def zE(M:Mem)(n0:Nat):Nat->T->Option (List Nat)
 | 0,t=>if t.lf then some [] else none
 |d+1,t=>if t.lf then some [] else match t with
  | .tup ts=>(ts.mapM (zE M n0 d)).map List.flatten
  | .cell n=>if n0<=n then (M[n]?).bind λts=>(ts.mapM (zE M n0 d)).map λl=>l.flatten++[n] else none
  |_=>none
noncomputable def frR(M:Mem)(n0:Nat)(t:T):Bool:=match zE M n0 6 t with|some l=>decide l.Nodup|none=>false
noncomputable def finish(n0:Nat)(x:TB)(M:Mem):PR (TB×Mem):=
 if M.length=n0 then .ok (x,M) else if (M.take n0).all (T.unds n0) then (PR.ofO (qH M n0 6 x.1)).bind λt=>.ok ((t,x.2||frR M n0 x.1),M.take n0) else .stuck
noncomputable def JM(n0:Nat):RSt->PR (TB×Mem)
 | .ok (.nx _,M1)=>finish n0 (.v .non,true) M1
 | .ok (.rt t,M1)=>finish n0 t M1
 | .ok (_,_)=>.stuck
 | .exc c M1=>if M1.length=n0 then .exc c M1 else if (M1.take n0).all (T.unds n0) then .exc c (M1.take n0) else .stuck
 | .stuck=>.stuck
noncomputable def Pk(gl:List T)(tb:List Fn)(Cs:List (List Nat)):Nat->Nat->List T->Mem->PR (TB×Mem)
 | 0,_,_,_=>.stuck
 |k+1,f,vs,M=>match tb[f]? with
  |some d=>if vs.length=d.npar/\d.npar<=d.nslot then JM M.length (pxs gl (Pk gl tb Cs k) (Cs.getD f []) d.body (vs.map some++List.replicate (d.nslot-d.npar) none) M)
   else .stuck
  |none=>.stuck
def jE{α β:Type}(R:α->β->Prop):List α->List β->Prop
 | [],vs=>vs=[]
 |t::ts,vs=>∃v vs',vs=v::vs'/\R t v/\jE R ts vs'
section
variable{α β:Type}{R:α->β->Prop}
theorem qC:∀{xs:List α}{ys:List β},jE R xs ys->xs.length=ys.length
 | [],_,h=>by cases h;rfl
 |x::xs,_,⟨v,vs,rfl,_,h⟩=>by simp[qC h]
theorem qz:∀{xs:List α}{ys:List β}{i:Nat}{x:α},jE R xs ys->xs[i]?=some x->∃y,ys[i]?=some y/\R x y
 | [],_,i,x,h,e=>by simp at e
 |x::xs,_,0,x',⟨v,vs,rfl,r,h⟩,e=>⟨v,rfl,by simp at e;subst e;exact r⟩
 |x::xs,_,i+1,x',⟨v,vs,rfl,r,h⟩,e=>by
  obtain⟨y,e1,r1⟩:=qz (i:=i) h (by simpa using e);exact⟨y,by simpa using e1,r1⟩
theorem qy:∀{xs:List α}{ys:List β}{xs':List α}{ys':List β},jE R xs ys->jE R xs' ys'->jE R (xs++xs') (ys++ys')
 | [],_,_,_,h,k=>by cases h;exact k
 |x::xs,_,_,_,⟨v,vs,rfl,r,h⟩,k=>⟨v,vs++_,rfl,r,qy h k⟩
theorem zK:∀(n:Nat){xs:List α}{ys:List β},jE R xs ys->jE R (xs.take n) (ys.take n)
 | 0,_,_,_=>by simp[jE]
 |n+1,[],_,h=>by cases h;simp[jE]
 |n+1,x::xs,_,⟨v,vs,rfl,r,h⟩=>⟨v,vs.take n,rfl,r,zK n h⟩
theorem jl:∀(n:Nat){xs:List α}{ys:List β},jE R xs ys->jE R (xs.drop n) (ys.drop n)
 | 0,_,_,h=>h
 |n+1,[],_,h=>by cases h;simp[jE]
 |n+1,x::xs,_,⟨v,vs,rfl,r,h⟩=>jl n h
theorem zx:∀{xs:List α}{ys:List β}(j:Nat){x:α}{y:β},jE R xs ys->R x y->jE R (xs.set j x) (ys.set j y)
 | [],_,j,_,_,h,r=>by cases h;simp[jE]
 |x::xs,_,0,_,_,⟨v,vs,rfl,r0,h⟩,r=>⟨_,vs,rfl,r,h⟩
 |x::xs,_,j+1,_,_,⟨v,vs,rfl,r0,h⟩,r=>⟨v,vs.set j _,rfl,r0,zx j h r⟩
theorem d7(n:Nat){xs:List α}{ys:List β}(h:jE R xs ys):jE R (List.replicate n xs).flatten (List.replicate n ys).flatten:=by
 induction n with
 |zero=>simp[jE]
 |succ n ih=>simp only[List.replicate_succ,List.flatten_cons];exact qy h ih
theorem JY{S:α->β->Prop}(f:∀x y,R x y->S x y):∀{xs:List α}{ys:List β},jE R xs ys->jE S xs ys
 | [],_,h=>h
 |x::xs,_,⟨v,vs,rfl,r,h⟩=>⟨v,vs,rfl,f _ _ r,JY f h⟩
end
mutual
def Rep(A X:List Nat)(h:AH):T->V->Prop
 | .v x,w=>w=x/\flat x=true
 | .cell n,w=>∃a:Nat,A[n]?=some a/\w=.ref a
 | .fz ts,w=>∃a vs,w=.ref a/\a∉X/\h[a]?=some (.lst true vs)/\qM A X h ts vs
 | .lst ts,w=>∃a vs,w=.ref a/\a∉X/\h[a]?=some (.lst false vs)/\qM A X h ts vs
 | .tup ts,w=>∃a vs,w=.ref a/\a∉X/\h[a]?=some (.tup vs)/\qM A X h ts vs
 | .ob o,w=>∃a,w=.ref a/\a∉X/\h[a]?=some (.ob o)
def qM(A X:List Nat)(h:AH):List T->List V->Prop
 | [],vs=>vs=[]
 |t::ts,vs=>∃v vs',vs=v::vs'/\Rep A X h t v/\qM A X h ts vs'
end
theorem reps_iff{A X:List Nat}{h:AH}:∀{ts:List T}{vs:List V},qM A X h ts vs↔jE (Rep A X h) ts vs
 | [],vs=>by unfold qM jE;rfl
 |t::ts,vs=>by
  unfold qM jE;constructor
  ·rintro⟨v,vs',e,r,k⟩;exact⟨v,vs',e,r,reps_iff.mp k⟩
  ·rintro⟨v,vs',e,r,k⟩;exact⟨v,vs',e,r,reps_iff.mpr k⟩
mutual
def FP(X:List Nat)(h:AH):T->V->List Nat->Prop
 | .v x,w,fp=>(w=x/\flat x=true)/\fp=[]
 | .lst ts,w,fp=>∃a vs f,w=.ref a/\a∉X/\h[a]?=some (.lst false vs)/\FPs X h ts vs f/\fp=f++[a]
 | .tup ts,w,fp=>∃a vs,w=.ref a/\a∉X/\h[a]?=some (.tup vs)/\FPs X h ts vs fp
 | .ob o,w,fp=>(∃a,w=.ref a/\a∉X/\h[a]?=some (.ob o))/\fp=[]
 | .fz _,_,_=>False
 | .cell _,_,_=>False
def FPs(X:List Nat)(h:AH):List T->List V->List Nat->Prop
 | [],vs,fp=>vs=[]/\fp=[]
 |t::ts,vs,fp=>∃v vs' f1 f2,vs=v::vs'/\FP X h t v f1/\FPs X h ts vs' f2/\fp=f1++f2
end
mutual
theorem qp{A X A' X':List Nat}{h h':AH}(hc:∀(n:Nat) a,A[n]?=some a->A'[n]?=some a)(hn:∀a o,a∉X->h[a]?=some o->a∉X'/\h'[a]?=some o):∀(t:T){w:V},Rep A X h t w->Rep A' X' h' t w
 | .v x,w,r=>by unfold Rep at r ⊢;exact r
 | .cell n,w,r=>by unfold Rep at r ⊢;obtain⟨a,e,q⟩:=r;exact⟨a,hc _ _ e,q⟩
 | .fz ts,w,r=>by unfold Rep at r ⊢;obtain⟨a,vs,e,q1,q2,q3⟩:=r;exact⟨a,vs,e,(hn _ _ q1 q2).1,(hn _ _ q1 q2).2,qP hc hn ts q3⟩
 | .lst ts,w,r=>by unfold Rep at r ⊢;obtain⟨a,vs,e,q1,q2,q3⟩:=r;exact⟨a,vs,e,(hn _ _ q1 q2).1,(hn _ _ q1 q2).2,qP hc hn ts q3⟩
 | .tup ts,w,r=>by unfold Rep at r ⊢;obtain⟨a,vs,e,q1,q2,q3⟩:=r;exact⟨a,vs,e,(hn _ _ q1 q2).1,(hn _ _ q1 q2).2,qP hc hn ts q3⟩
 | .ob o,w,r=>by unfold Rep at r ⊢;obtain⟨a,e,q1,q2⟩:=r;exact⟨a,e,(hn _ _ q1 q2).1,(hn _ _ q1 q2).2⟩
theorem qP{A X A' X':List Nat}{h h':AH}(hc:∀(n:Nat) a,A[n]?=some a->A'[n]?=some a)(hn:∀a o,a∉X->h[a]?=some o->a∉X'/\h'[a]?=some o):∀(ts:List T){ws:List V},qM A X h ts ws->qM A' X' h' ts ws
 | [],w,r=>by unfold qM at r ⊢;exact r
 |t::ts,w,r=>by unfold qM at r ⊢;obtain⟨v,vs,e,q1,q2⟩:=r;exact⟨v,vs,e,qp hc hn t q1,qP hc hn ts q2⟩
end
mutual
theorem ZF{X X':List Nat}{h h':AH}(hn:∀a o,a∉X->h[a]?=some o->a∉X'/\h'[a]?=some o):∀(t:T){w:V}{fp:List Nat},FP X h t w fp->FP X' h' t w fp
 | .v x,w,_,r=>by unfold FP at r ⊢;exact r
 | .cell n,w,_,r=>by unfold FP at r;exact r.elim
 | .fz ts,w,_,r=>by unfold FP at r;exact r.elim
 | .lst ts,w,_,r=>by unfold FP at r ⊢;obtain⟨a,vs,f,e,q1,q2,q3,q4⟩:=r;exact⟨a,vs,f,e,(hn _ _ q1 q2).1,(hn _ _ q1 q2).2,zb hn ts q3,q4⟩
 | .tup ts,w,_,r=>by unfold FP at r ⊢;obtain⟨a,vs,e,q1,q2,q3⟩:=r;exact⟨a,vs,e,(hn _ _ q1 q2).1,(hn _ _ q1 q2).2,zb hn ts q3⟩
 | .ob o,w,_,r=>by unfold FP at r ⊢;obtain⟨⟨a,e,q1,q2⟩,q3⟩:=r;exact⟨⟨a,e,(hn _ _ q1 q2).1,(hn _ _ q1 q2).2⟩,q3⟩
theorem zb{X X':List Nat}{h h':AH}(hn:∀a o,a∉X->h[a]?=some o->a∉X'/\h'[a]?=some o):∀(ts:List T){ws:List V}{fp:List Nat},FPs X h ts ws fp->FPs X' h' ts ws fp
 | [],w,_,r=>by unfold FPs at r ⊢;exact r
 |t::ts,w,_,r=>by unfold FPs at r ⊢;obtain⟨v,vs,f1,f2,e,q1,q2,q3⟩:=r;exact⟨v,vs,f1,f2,e,ZF hn t q1,zb hn ts q2,q3⟩
end
mutual
theorem qBh{A X:List Nat}{h:AH}:∀(t:T){w:V}{fp:List Nat},FP X h t w fp->Rep A X h t w
 | .v x,w,_,r=>by unfold FP at r;unfold Rep;exact r.1
 | .cell n,w,_,r=>by unfold FP at r;exact r.elim
 | .fz ts,w,_,r=>by unfold FP at r;exact r.elim
 | .lst ts,w,_,r=>by unfold FP at r;unfold Rep;obtain⟨a,vs,f,e,q1,q2,q3,q4⟩:=r;exact⟨a,vs,e,q1,q2,A5 ts q3⟩
 | .tup ts,w,_,r=>by unfold FP at r;unfold Rep;obtain⟨a,vs,e,q1,q2,q3⟩:=r;exact⟨a,vs,e,q1,q2,A5 ts q3⟩
 | .ob o,w,_,r=>by unfold FP at r;unfold Rep;exact r.1
theorem A5{A X:List Nat}{h:AH}:∀(ts:List T){ws:List V}{fp:List Nat},FPs X h ts ws fp->qM A X h ts ws
 | [],w,_,r=>by unfold FPs at r;unfold qM;exact r.1
 |t::ts,w,_,r=>by unfold FPs at r;unfold qM;obtain⟨v,vs,f1,f2,e,q1,q2,q3⟩:=r;exact⟨v,vs,e,qBh t q1,A5 ts q2⟩
end
mutual
theorem k8{X:List Nat}{h:AH}(n:Nat):∀(t:T){w:V}{fp:List Nat},FP X h t w fp->t.und n=true
 | .v x,w,_,r=>rfl
 | .cell n,w,_,r=>by unfold FP at r;exact r.elim
 | .fz ts,w,_,r=>by unfold FP at r;exact r.elim
 | .lst ts,w,_,r=>by unfold FP at r;obtain⟨a,vs,f,e,q1,q2,q3,q4⟩:=r;exact A7 n ts q3
 | .tup ts,w,_,r=>by unfold FP at r;obtain⟨a,vs,e,q1,q2,q3⟩:=r;exact A7 n ts q3
 | .ob o,w,_,r=>rfl
theorem A7{X:List Nat}{h:AH}(n:Nat):∀(ts:List T){ws:List V}{fp:List Nat},FPs X h ts ws fp->T.unds n ts=true
 | [],w,_,r=>rfl
 |t::ts,w,_,r=>by unfold FPs at r;obtain⟨v,vs,f1,f2,e,q1,q2,q3⟩:=r;unfold T.unds;rw[k8 n t q1,A7 n ts q2];rfl
end
mutual
theorem G2{X:List Nat}{h:AH}:∀(t:T){w:V}{fp:List Nat},FP X h t w fp->∀a∈fp,a∉X/\∃vs,h[a]?=some (.lst false vs)
 | .v x,w,_,r=>by unfold FP at r;obtain⟨_,rfl⟩:=r;intro a ha;simp at ha
 | .cell n,w,_,r=>by unfold FP at r;exact r.elim
 | .fz ts,w,_,r=>by unfold FP at r;exact r.elim
 | .lst ts,w,_,r=>by
  unfold FP at r;obtain⟨a,vs,f,e,q1,q2,q3,rfl⟩:=r;intro b hb;rcases wD.mp hb with hb|hb
  ·exact jy ts q3 b hb
  ·simp at hb;subst hb;exact⟨q1,vs,q2⟩
 | .tup ts,w,_,r=>by unfold FP at r;obtain⟨a,vs,e,q1,q2,q3⟩:=r;exact jy ts q3
 | .ob o,w,_,r=>by unfold FP at r;obtain⟨_,rfl⟩:=r;intro a ha;simp at ha
theorem jy{X:List Nat}{h:AH}:∀(ts:List T){ws:List V}{fp:List Nat},FPs X h ts ws fp->∀a∈fp,a∉X/\∃vs,h[a]?=some (.lst false vs)
 | [],w,_,r=>by unfold FPs at r;obtain⟨_,rfl⟩:=r;intro a ha;simp at ha
 |t::ts,w,_,r=>by
  unfold FPs at r;obtain⟨v,vs,f1,f2,e,q1,q2,rfl⟩:=r;intro b hb;rcases wD.mp hb with hb|hb
  ·exact G2 t q1 b hb
  ·exact jy ts q2 b hb
end
mutual
theorem qAQ{A X:List Nat}{h:AH}:∀(t:T){w:V},Rep A X h t w->t.lf=true->FP X h t w []
 | .v x,w,r,l=>by unfold Rep at r;unfold FP;exact⟨r,rfl⟩
 | .cell n,w,r,l=>by unfold T.lf at l;cases l
 | .fz ts,w,r,l=>by unfold T.lf at l;cases l
 | .lst ts,w,r,l=>by unfold T.lf at l;cases l
 | .tup ts,w,r,l=>by unfold Rep at r;unfold FP;obtain⟨a,vs,e,q1,q2,q3⟩:=r;exact⟨a,vs,e,q1,q2,O7 ts q3 (by unfold T.lf at l;exact l)⟩
 | .ob o,w,r,l=>by unfold Rep at r;unfold FP;exact⟨r,rfl⟩
theorem O7{A X:List Nat}{h:AH}:∀(ts:List T){ws:List V},qM A X h ts ws->T.lfs ts=true->FPs X h ts ws []
 | [],w,r,l=>by unfold qM at r;unfold FPs;exact⟨r,rfl⟩
 |t::ts,w,r,l=>by
  unfold qM at r;unfold FPs;obtain⟨v,vs,e,q1,q2⟩:=r;unfold T.lfs at l;simp only[Bool.and_eq_true]at l;exact⟨v,vs,[],[],e,qAQ t q1 l.1,O7 ts q2 l.2,rfl⟩
end
mutual
theorem O6{A X A1 X1:List Nat}{h:AH}{n0:Nat}(hc:∀n,n<n0->A1[n]?=A[n]?)(hX:∀a∈X,a∈X1):∀(t:T){w:V},Rep A1 X1 h t w->t.und n0=true->Rep A X h t w
 | .v x,w,r,u=>by unfold Rep at r ⊢;exact r
 | .cell n,w,r,u=>by
  unfold Rep at r ⊢;obtain⟨a,e,q⟩:=r;unfold T.und at u;exact⟨a,(hc n (by simpa using u)).symm.trans e,q⟩
 | .fz ts,w,r,u=>by unfold Rep at r ⊢;obtain⟨a,vs,e,q1,q2,q3⟩:=r;exact⟨a,vs,e,λz=>q1 (hX _ z),q2,ji hc hX ts q3 (by unfold T.und at u;exact u)⟩
 | .lst ts,w,r,u=>by unfold Rep at r ⊢;obtain⟨a,vs,e,q1,q2,q3⟩:=r;exact⟨a,vs,e,λz=>q1 (hX _ z),q2,ji hc hX ts q3 (by unfold T.und at u;exact u)⟩
 | .tup ts,w,r,u=>by unfold Rep at r ⊢;obtain⟨a,vs,e,q1,q2,q3⟩:=r;exact⟨a,vs,e,λz=>q1 (hX _ z),q2,ji hc hX ts q3 (by unfold T.und at u;exact u)⟩
 | .ob o,w,r,u=>by unfold Rep at r ⊢;obtain⟨a,e,q1,q2⟩:=r;exact⟨a,e,λz=>q1 (hX _ z),q2⟩
theorem ji{A X A1 X1:List Nat}{h:AH}{n0:Nat}(hc:∀n,n<n0->A1[n]?=A[n]?)(hX:∀a∈X,a∈X1):∀(ts:List T){ws:List V},qM A1 X1 h ts ws->T.unds n0 ts=true->qM A X h ts ws
 | [],w,r,u=>by unfold qM at r ⊢;exact r
 |t::ts,w,r,u=>by
  unfold qM at r ⊢;obtain⟨v,vs,e,q1,q2⟩:=r;unfold T.unds at u;simp only[Bool.and_eq_true]at u;exact⟨v,vs,e,O6 hc hX t q1 u.1,ji hc hX ts q2 u.2⟩
end
theorem jD{x:V}{a:Nat}(h:flat x=true)(e:V.ref a=x):False:=by subst e;cases h
mutual
theorem N8{A X:List Nat}{h:AH}(nd:A.Nodup)(hs:∀a∈A,a∈X):∀(s t:T){w:V},Rep A X h s w->Rep A X h t w->s=t
 | .v x,t,w,r,q=>by
  unfold Rep at r;obtain⟨rfl,f⟩:=r;cases t with
  |v y=>unfold Rep at q;obtain⟨rfl,_⟩:=q;rfl
  |cell n=>unfold Rep at q;obtain⟨a,_,e⟩:=q;subst e;cases f
  |fz ts=>unfold Rep at q;obtain⟨a,vs,e,_⟩:=q;subst e;cases f
  |lst ts=>unfold Rep at q;obtain⟨a,vs,e,_⟩:=q;subst e;cases f
  |tup ts=>unfold Rep at q;obtain⟨a,vs,e,_⟩:=q;subst e;cases f
  |ob o=>unfold Rep at q;obtain⟨a,e,_⟩:=q;subst e;cases f
 | .cell n,t,w,r,q=>by
  unfold Rep at r;obtain⟨a,ea,rfl⟩:=r;have am:a∈X:=hs _ (List.mem_of_getElem? ea);cases t with
  |v y=>unfold Rep at q;obtain⟨e,f⟩:=q;exact(jD f e).elim
  |cell m=>
   unfold Rep at q;obtain⟨b,eb,e⟩:=q;cases e;have:n=m:=(List.getElem?_inj (by exact(List.getElem?_eq_some_iff.mp ea).1) nd).mp (ea.trans eb.symm);rw[this]
  |fz ts=>unfold Rep at q;obtain⟨b,vs,e,k,_⟩:=q;cases e;exact(k am).elim
  |lst ts=>unfold Rep at q;obtain⟨b,vs,e,k,_⟩:=q;cases e;exact(k am).elim
  |tup ts=>unfold Rep at q;obtain⟨b,vs,e,k,_⟩:=q;cases e;exact(k am).elim
  |ob o=>unfold Rep at q;obtain⟨b,e,k,_⟩:=q;cases e;exact(k am).elim
 | .fz ss,t,w,r,q=>by
  unfold Rep at r;obtain⟨a,vs,rfl,k1,k2,k3⟩:=r;cases t with
  |v y=>unfold Rep at q;obtain⟨e,f⟩:=q;exact(jD f e).elim
  |cell m=>unfold Rep at q;obtain⟨b,eb,e⟩:=q;cases e;exact(k1 (hs _ (List.mem_of_getElem? eb))).elim
  |fz ts=>unfold Rep at q;obtain⟨b,vs',e,z1,z2,z3⟩:=q;cases e;rw[k2]at z2;cases z2;rw[QN nd hs ss ts k3 z3]
  |lst ts=>unfold Rep at q;obtain⟨b,vs',e,z1,z2,z3⟩:=q;cases e;rw[k2]at z2;cases z2
  |tup ts=>unfold Rep at q;obtain⟨b,vs',e,z1,z2,z3⟩:=q;cases e;rw[k2]at z2;cases z2
  |ob o=>unfold Rep at q;obtain⟨b,e,z1,z2⟩:=q;cases e;rw[k2]at z2;cases z2
 | .lst ss,t,w,r,q=>by
  unfold Rep at r;obtain⟨a,vs,rfl,k1,k2,k3⟩:=r;cases t with
  |v y=>unfold Rep at q;obtain⟨e,f⟩:=q;exact(jD f e).elim
  |cell m=>unfold Rep at q;obtain⟨b,eb,e⟩:=q;cases e;exact(k1 (hs _ (List.mem_of_getElem? eb))).elim
  |lst ts=>unfold Rep at q;obtain⟨b,vs',e,z1,z2,z3⟩:=q;cases e;rw[k2]at z2;cases z2;rw[QN nd hs ss ts k3 z3]
  |fz ts=>unfold Rep at q;obtain⟨b,vs',e,z1,z2,z3⟩:=q;cases e;rw[k2]at z2;cases z2
  |tup ts=>unfold Rep at q;obtain⟨b,vs',e,z1,z2,z3⟩:=q;cases e;rw[k2]at z2;cases z2
  |ob o=>unfold Rep at q;obtain⟨b,e,z1,z2⟩:=q;cases e;rw[k2]at z2;cases z2
 | .tup ss,t,w,r,q=>by
  unfold Rep at r;obtain⟨a,vs,rfl,k1,k2,k3⟩:=r;cases t with
  |v y=>unfold Rep at q;obtain⟨e,f⟩:=q;exact(jD f e).elim
  |cell m=>unfold Rep at q;obtain⟨b,eb,e⟩:=q;cases e;exact(k1 (hs _ (List.mem_of_getElem? eb))).elim
  |tup ts=>unfold Rep at q;obtain⟨b,vs',e,z1,z2,z3⟩:=q;cases e;rw[k2]at z2;cases z2;rw[QN nd hs ss ts k3 z3]
  |fz ts=>unfold Rep at q;obtain⟨b,vs',e,z1,z2,z3⟩:=q;cases e;rw[k2]at z2;cases z2
  |lst ts=>unfold Rep at q;obtain⟨b,vs',e,z1,z2,z3⟩:=q;cases e;rw[k2]at z2;cases z2
  |ob o=>unfold Rep at q;obtain⟨b,e,z1,z2⟩:=q;cases e;rw[k2]at z2;cases z2
 | .ob o,t,w,r,q=>by
  unfold Rep at r;obtain⟨a,rfl,k1,k2⟩:=r;cases t with
  |v y=>unfold Rep at q;obtain⟨e,f⟩:=q;exact(jD f e).elim
  |cell m=>unfold Rep at q;obtain⟨b,eb,e⟩:=q;cases e;exact(k1 (hs _ (List.mem_of_getElem? eb))).elim
  |fz ts=>unfold Rep at q;obtain⟨b,vs',e,z1,z2,z3⟩:=q;cases e;rw[k2]at z2;cases z2
  |lst ts=>unfold Rep at q;obtain⟨b,vs',e,z1,z2,z3⟩:=q;cases e;rw[k2]at z2;cases z2
  |tup ts=>unfold Rep at q;obtain⟨b,vs',e,z1,z2,z3⟩:=q;cases e;rw[k2]at z2;cases z2
  |ob o'=>unfold Rep at q;obtain⟨b,e,z1,z2⟩:=q;cases e;rw[k2]at z2;cases z2;rfl
theorem QN{A X:List Nat}{h:AH}(nd:A.Nodup)(hs:∀a∈A,a∈X):∀(ss ts:List T){ws:List V},qM A X h ss ws->qM A X h ts ws->ss=ts
 | [],[],w,r,q=>rfl
 | [],t::ts,w,r,q=>by unfold qM at r q;obtain⟨v,vs,e,_⟩:=q;subst r;cases e
 |s::ss,[],w,r,q=>by unfold qM at r q;obtain⟨v,vs,e,_⟩:=r;subst q;cases e
 |s::ss,t::ts,w,r,q=>by
  unfold qM at r q;obtain⟨v,vs,rfl,k1,k2⟩:=r;obtain⟨v',vs',e,z1,z2⟩:=q;cases e;rw[N8 nd hs s t k1 z1,QN nd hs ss ts k2 z2]
end
mutual
theorem qCS:∀(s t:T),T.beq s t=true->s=t
 | .v x,.v y,h=>by unfold T.beq at h;simp at h;rw[h]
 | .cell x,.cell y,h=>by unfold T.beq at h;simp at h;rw[h]
 | .fz x,.fz y,h=>by unfold T.beq at h;rw[jr x y h]
 | .lst x,.lst y,h=>by unfold T.beq at h;rw[jr x y h]
 | .tup x,.tup y,h=>by unfold T.beq at h;rw[jr x y h]
 | .ob x,.ob y,h=>by unfold T.beq at h;simp at h;rw[h]
 | .ob _,.v _,h | .ob _,.cell _,h | .ob _,.fz _,h | .ob _,.lst _,h | .ob _,.tup _,h=>by simp[T.beq]at h
 | .v _,.ob _,h | .cell _,.ob _,h | .fz _,.ob _,h | .lst _,.ob _,h | .tup _,.ob _,h=>by simp[T.beq]at h
 | .v _,.cell _,h | .v _,.fz _,h | .v _,.lst _,h | .v _,.tup _,h=>by simp[T.beq]at h
 | .cell _,.v _,h | .cell _,.fz _,h | .cell _,.lst _,h | .cell _,.tup _,h=>by simp[T.beq]at h
 | .fz _,.v _,h | .fz _,.cell _,h | .fz _,.lst _,h | .fz _,.tup _,h=>by simp[T.beq]at h
 | .lst _,.v _,h | .lst _,.cell _,h | .lst _,.fz _,h | .lst _,.tup _,h=>by simp[T.beq]at h
 | .tup _,.v _,h | .tup _,.cell _,h | .tup _,.fz _,h | .tup _,.lst _,h=>by simp[T.beq]at h
theorem jr:∀(ss ts:List T),T.beqs ss ts=true->ss=ts
 | [],[],h=>rfl
 | [],_::_,h=>by simp[T.beqs]at h
 |_::_,[],h=>by simp[T.beqs]at h
 |s::ss,t::ts,h=>by unfold T.beqs at h;simp only[Bool.and_eq_true]at h;rw[qCS s t h.1,jr ss ts h.2]
end
def Frm(A:List Nat)(h h':AH):Prop:=h.length<=h'.length/\∀j,j<h.length->j∉A->h'[j]?=h[j]?
theorem Frm.refl(A:List Nat)(h:AH):Frm A h h:=⟨Nat.le_refl _,λ_ _ _=>rfl⟩
theorem Frm.trans{A:List Nat}{a b c:AH}(x:Frm A a b)(y:Frm A b c):Frm A a c:=⟨Nat.le_trans x.1 y.1,λj hj hA=>(y.2 j (wB hj x.1) hA).trans (x.2 j hj hA)⟩
theorem Frm.trans2{A B:List Nat}{a b c:AH}(x:Frm A a b)(hB:∀k∈B,a.length<=k)(y:Frm (A++B) b c):Frm A a c:=
 ⟨Nat.le_trans x.1 y.1,λj hj hA=>(y.2 j (wB hj x.1) (by rw[wD];rintro(z|z);exact hA z;have:=hB _ z;omega)).trans (x.2 j hj hA)⟩
theorem Frm.app(A:List Nat)(h e:AH):Frm A h (h++e):=⟨by simp,λj hj _=>by rw[List.getElem?_append_left hj]⟩
theorem Frm.set{A:List Nat}{h h':AH}(f:Frm A h h'){a:Nat}(ha:a∈A\/h.length<=a)(o:O):Frm A h (h'.set a o):=⟨by simpa using f.1,λj hj hA=>by
 rw[wH (by rintro rfl;rcases ha with z|z;exact hA z;omega)];exact f.2 j hj hA⟩
theorem qN{h:AH}{a:Nat}{o:O}(e:h[a]?=some o):a<h.length:=(List.getElem?_eq_some_iff.mp e).1
structure RelM(gl:List T)(A X:List Nat)(h:AH)(M:Mem):Prop where
 len:A.length=M.length
 nd:A.Nodup
 sub:∀a∈A,a∈X
 lt:∀a∈X,a<h.length
 at_:∀(n:Nat) a,A[n]?=some a->∃ts vs,M[n]?=some ts/\h[a]?=some (.lst false vs)/\qM A X h ts vs
 glo:∀(g:Nat) t,gl[g]?=some t->Rep A X h t (.ref g)
section
variable{gl:List T}{A X:List Nat}{h h':AH}{M:Mem}
theorem RelM.keepN(R:RelM gl A X h M)(f:Frm A h h'):∀a o,a∉X->h[a]?=some o->a∉X/\h'[a]?=some o:=λa o hx e=>⟨hx,(f.2 a (qN e) λz=>hx (R.sub _ z)).trans e⟩
theorem RelM.keep(R:RelM gl A X h M)(f:Frm A h h'){t:T}{w:V}(r:Rep A X h t w):Rep A X h' t w:=qp (λ_ _ e=>e) (R.keepN f) t r
theorem RelM.keeps(R:RelM gl A X h M)(f:Frm A h h'){t:List T}{w:List V}(r:qM A X h t w):qM A X h' t w:=qP (λ_ _ e=>e) (R.keepN f) t r
theorem RelM.up(R:RelM gl A X h M)(e:AH):RelM gl A X (h++e) M:=by
 have f:Frm A h (h++e):=Frm.app A h e;refine⟨R.len,R.nd,R.sub,λa ha=>wB (R.lt a ha) f.1,λn a ea=>?_,λg t eg=>R.keep f (R.glo g t eg)⟩;obtain⟨ts,vs,e1,e2,e3⟩:=R.at_ n a ea;exact⟨ts,vs,e1,by rw[List.getElem?_append_left (qN e2)];exact e2,R.keeps f e3⟩
theorem RelM.put(R:RelM gl A X h M){n a:Nat}(ea:A[n]?=some a){ts:List T}{vs:List V}(r:qM A X h ts vs):RelM gl A X (h.set a (.lst false vs)) (M.set n ts)/\Frm A h (h.set a (.lst false vs)):=by
 have am:a∈A:=List.mem_of_getElem? ea;have f:Frm A h (h.set a (.lst false vs)):=(Frm.refl A h).set (.inl am) _;have al:a<h.length:=R.lt a (R.sub a am);refine⟨⟨by simpa using R.len,R.nd,R.sub,λb hb=>by simpa using R.lt b hb,λm b eb=>?_,λg t eg=>R.keep f (R.glo g t eg)⟩,f⟩;by_cases hm:n=m
 ·subst hm;rw[ea]at eb;cases eb;have nl:n<M.length:=by rw[<-R.len];exact(List.getElem?_eq_some_iff.mp ea).1
  exact⟨ts,vs,by rw[List.getElem?_set_self nl],by rw[List.getElem?_set_self al],R.keeps f r⟩
 ·obtain⟨ts',vs',e1,e2,e3⟩:=R.at_ m b eb;have hab:a≠b:=by
   rintro rfl;exact hm ((List.getElem?_inj (List.getElem?_eq_some_iff.mp ea).1 R.nd).mp (ea.trans eb.symm))
  exact⟨ts',vs',by rw[wH hm];exact e1,by rw[wH hab];exact e2,R.keeps f e3⟩
end
def New(gl:List T)(A X:List Nat)(n:Nat)(h:AH)(M:Mem)(t:T)(w:V):Prop:=∀kvs,t=.ob (.dct kvs)->∃a,w=.ref a/\n<=a/\RelM gl A (X++[a]) h M
theorem New.of_lf{gl:List T}{A X:List Nat}{n:Nat}{h:AH}{M:Mem}{t:T}{w:V}(l:t.lf=true):New gl A X n h M t w:=λkvs e=>by subst e;cases l
theorem New.lst{gl:List T}{A X:List Nat}{n:Nat}{h:AH}{M:Mem}{ts:List T}{w:V}:New gl A X n h M (.lst ts) w:=λkvs e=>by cases e
theorem New.tup{gl:List T}{A X:List Nat}{n:Nat}{h:AH}{M:Mem}{ts:List T}{w:V}:New gl A X n h M (.tup ts) w:=λkvs e=>by cases e
def Frs(gl:List T)(A X:List Nat)(n:Nat)(h:AH)(M:Mem)(t:T)(w:V):Prop:=∃fp,FP X h t w fp/\fp.Nodup/\(∀a∈fp,n<=a)/\RelM gl A (X++fp) h M/\New gl A X n h M t w
def Frss(gl:List T)(A X:List Nat)(n:Nat)(h:AH)(M:Mem)(t:List T)(w:List V):Prop:=∃fp,FPs X h t w fp/\fp.Nodup/\(∀a∈fp,n<=a)/\RelM gl A (X++fp) h M
theorem Frs.of_lf{gl:List T}{A X:List Nat}{n:Nat}{h:AH}{M:Mem}{t:T}{w:V}(R:RelM gl A X h M)(r:Rep A X h t w)(l:t.lf=true):Frs gl A X n h M t w:=⟨[],qAQ t r l,vE,λa ha=>by simp at ha,by rw[List.append_nil];exact R,New.of_lf l⟩
theorem Frss.of_lf{gl:List T}{A X:List Nat}{n:Nat}{h:AH}{M:Mem}{t:List T}{w:List V}(R:RelM gl A X h M)(r:qM A X h t w)(l:T.lfs t=true):Frss gl A X n h M t w:=⟨[],O7 t r l,vE,λa ha=>by simp at ha,by rw[List.append_nil];exact R⟩
def Sim{α β:Type}(gl:List T)(A X:List Nat)(h:AH)(Q:α->β->AH->Mem->Prop):PR (α×Mem)->Res (β×AH)->Prop
 | .ok (x,M'),r=>∃y h',r=.ok (y,h')/\Frm A h h'/\RelM gl A X h' M'/\Q x y h' M'
 | .exc c M',r=>∃h',r=.exc c h'/\Frm A h h'/\RelM gl A X h' M'
 | .stuck,_=>True
theorem Sim.bind{α β α2 β2:Type}{gl:List T}{A X:List Nat}{h:AH}{Q:α->β->AH->Mem->Prop}{Q2:α2->β2->AH->Mem->Prop}{r:PR (α×Mem)}{rh:Res (β×AH)}{f:α×Mem->PR (α2×Mem)}{g:β×AH->Res (β2×AH)}
  (s:Sim gl A X h Q r rh) (k:∀x M' y h',Frm A h h'->RelM gl A X h' M'->Q x y h' M'->Sim gl A X h' Q2 (f (x,M')) (g (y,h'))):Sim gl A X h Q2 (r.bind f) (rh.bind g):=by
 cases r with
 |ok p=>
  obtain⟨x,M'⟩:=p;obtain⟨y,h',rfl,f1,R1,q⟩:=s;have:=k x M' y h' f1 R1 q;rw[PR.bind_ok,Res.bind_ok];revert this;generalize f (x,M')=r2;generalize g (y,h')=rh2;intro s2;cases r2 with
  |ok p2=>
   obtain⟨x2,M2⟩:=p2;obtain⟨y2,h2,e2,f2,R2,q2⟩:=s2;exact⟨y2,h2,e2,f1.trans f2,R2,q2⟩
  |exc c M2=>
   obtain⟨h2,e2,f2,R2⟩:=s2;exact⟨h2,e2,f1.trans f2,R2⟩
  |stuck=>trivial
 |exc c M'=>
  obtain⟨h',rfl,f1,R1⟩:=s;exact⟨h',rfl,f1,R1⟩
 |stuck=>trivial
theorem Sim.nx{α β:Type}{gl:List T}{A X:List Nat}{h:AH}{Q:α->β->AH->Mem->Prop}{r:PR (α×Mem)}{rh:Res (β×AH)}(s:Sim gl A X h Q r rh):Sim gl A X h Q r.nx rh.nx:=by
 cases r with
 |ok p=>obtain⟨x,M'⟩:=p;obtain⟨y,h',rfl,a,b,c⟩:=s;exact⟨y,h',rfl,a,b,c⟩
 |exc c M'=>trivial
 |stuck=>trivial
theorem Sim.stuck{α β:Type}{gl:List T}{A X:List Nat}{h:AH}{Q:α->β->AH->Mem->Prop}{r:Res (β×AH)}:Sim gl A X h Q (.stuck:PR (α×Mem)) r:=trivial
theorem Sim.ofO{α β α2:Type}{gl:List T}{A X:List Nat}{h:AH}{Q:α->β->AH->Mem->Prop}{o:Option α2}{f:α2->PR (α×Mem)}{r:Res (β×AH)}(k:∀x,o=some x->Sim gl A X h Q (f x) r):Sim gl A X h Q ((PR.ofO o).bind f) r:=by
 cases o with
 |none=>trivial
 |some x=>exact k x rfl
def QE(gl:List T)(A X:List Nat)(n:Nat):TB->V->AH->Mem->Prop:=λx w h M=>Rep A X h x.1 w/\(x.2=true->Frs gl A X n h M x.1 w)
def QEs(gl:List T)(A X:List Nat)(n:Nat):List TB->List V->AH->Mem->Prop:=λx w h M=>qM A X h (x.map (·.1)) w/\(x.all (·.2)=true->Frss gl A X n h M (x.map (·.1)) w)
theorem QE.le{gl:List T}{A X:List Nat}{n m:Nat}{x:TB}{w:V}{h:AH}{M:Mem}(q:QE gl A X n x w h M)(l:m<=n):QE gl A X m x w h M:=⟨q.1,λe=>by obtain⟨fp,a,b,c,d,nw⟩:=q.2 e;exact⟨fp,a,b,λz hz=>Nat.le_trans l (c z hz),d,λkvs e=>by obtain⟨z,q1,q2,q3⟩:=nw kvs e;exact⟨z,q1,Nat.le_trans l q2,q3⟩⟩⟩
theorem Sim.le{gl:List T}{A X:List Nat}{h:AH}{n m:Nat}{r:PR (TB×Mem)}{rh:RV}(s:Sim gl A X h (QE gl A X n) r rh)(l:m<=n):Sim gl A X h (QE gl A X m) r rh:=by
 cases r with
 |ok p=>obtain⟨y,h',e,f,R,q⟩:=s;exact⟨y,h',e,f,R,q.le l⟩
 |exc c M=>exact s
 |stuck=>trivial
theorem RelM.weak{gl:List T}{A X X':List Nat}{h:AH}{M:Mem}(R:RelM gl A X' h M)(hX:∀a∈X,a∈X')(hA:∀a∈A,a∈X):RelM gl A X h M:=by
 have hn:∀a o,a∉X'->h[a]?=some o->a∉X/\h[a]?=some o:=λa o x y=>⟨λz=>x (hX _ z),y⟩
 refine⟨R.len,R.nd,hA,λa ha=>R.lt a (hX a ha),λn a e=>?_,λg t e=>qp (λ_ _ e=>e) hn t (R.glo g t e)⟩;obtain⟨ts,vs,e1,e2,e3⟩:=R.at_ n a e;exact⟨ts,vs,e1,e2,qP (λ_ _ e=>e) hn ts e3⟩
theorem RelM.addX{gl:List T}{A X X':List Nat}{h:AH}{M:Mem}(R:RelM gl A X h M){o:O}(h1:∀a,a∈X'↔a=h.length\/a∈X):RelM gl A X' (h++[o]) M:=by
 have hn:∀a o',a∉X->h[a]?=some o'->a∉X'/\(h++[o])[a]?=some o':=λa o' x y=>⟨by
  rw[h1];rintro(z|z)
  ·have:=qN y;omega
  ·exact x z,by rw[List.getElem?_append_left (qN y)];exact y⟩
 refine⟨R.len,R.nd,λa ha=>(h1 a).mpr (.inr (R.sub a ha)),λa ha=>?_,λn a e=>?_,λg t e=>qp (λ_ _ e=>e) hn t (R.glo g t e)⟩
 ·rcases(h1 a).mp ha with z|z
  ·simp[z]
  ·have:=R.lt a z;simp;omega
 ·obtain⟨ts,vs,e1,e2,e3⟩:=R.at_ n a e;exact⟨ts,vs,e1,by rw[List.getElem?_append_left (qN e2)];exact e2,qP (λ_ _ e=>e) hn ts e3⟩
section
variable{gl:List T}{A X:List Nat}{h:AH}{M:Mem}
theorem D5(R:RelM gl A X h M){t:T}{w:V}{ts:List T}(r:Rep A X h t w)(e:t.its M=some ts):∃a vs,w=.ref a/\items h a=some vs/\qM A X h ts vs:=by
 cases t with
 |v x=>cases e
 |cell n=>
  unfold Rep at r;obtain⟨a,ea,rfl⟩:=r;obtain⟨ts',vs,e1,e2,e3⟩:=R.at_ n a ea;have:M[n]?=some ts:=e;rw[e1]at this;cases this;exact⟨a,vs,rfl,by unfold items;rw[e2],e3⟩
 |fz xs=>unfold Rep at r;obtain⟨a,vs,rfl,_,q,k⟩:=r;cases e;exact⟨a,vs,rfl,by unfold items;rw[q],k⟩
 |lst xs=>unfold Rep at r;obtain⟨a,vs,rfl,_,q,k⟩:=r;cases e;exact⟨a,vs,rfl,by unfold items;rw[q],k⟩
 |tup xs=>unfold Rep at r;obtain⟨a,vs,rfl,_,q,k⟩:=r;cases e;exact⟨a,vs,rfl,by unfold items;rw[q],k⟩
 |ob o=>cases e
theorem zr(R:RelM gl A X h M){t:T}{w:V}{ts:List T}(r:Rep A X h t w)(e:t.lis M=some ts):∃a vs f,w=.ref a/\h[a]?=some (.lst f vs)/\qM A X h ts vs:=by
 cases t with
 |v x=>cases e
 |cell n=>
  unfold Rep at r;obtain⟨a,ea,rfl⟩:=r;obtain⟨ts',vs,e1,e2,e3⟩:=R.at_ n a ea;have:M[n]?=some ts:=e;rw[e1]at this;cases this;exact⟨a,vs,false,rfl,e2,e3⟩
 |fz xs=>unfold Rep at r;obtain⟨a,vs,rfl,_,q,k⟩:=r;cases e;exact⟨a,vs,true,rfl,q,k⟩
 |lst xs=>unfold Rep at r;obtain⟨a,vs,rfl,_,q,k⟩:=r;cases e;exact⟨a,vs,false,rfl,q,k⟩
 |tup xs=>cases e
 |ob o=>cases e
theorem Q5(R:RelM gl A X h M){t:T}{w:V}{ts:List T}(r:Rep A X h t w)(e:t.mu M=some ts):∃a vs,w=.ref a/\qe h a=some vs/\qM A X h ts vs:=by
 cases t with
 |v x=>cases e
 |cell n=>
  unfold Rep at r;obtain⟨a,ea,rfl⟩:=r;obtain⟨ts',vs,e1,e2,e3⟩:=R.at_ n a ea;have:M[n]?=some ts:=e;rw[e1]at this;cases this;exact⟨a,vs,rfl,by unfold qe;rw[e2],e3⟩
 |fz xs=>cases e
 |lst xs=>unfold Rep at r;obtain⟨a,vs,rfl,_,q,k⟩:=r;cases e;exact⟨a,vs,rfl,by unfold qe;rw[q],k⟩
 |tup xs=>cases e
 |ob o=>cases e
theorem qZ{t:T}{x:V}(e:t.isV=some x):t=.v x:=by cases t<;>cases e;rfl
theorem jY{t:T}{w:V}(e:t.isV=none)(r:Rep A X h t w):∃a:Nat,w=.ref a:=by
 cases t with
 |v x=>cases e
 |cell n=>unfold Rep at r;obtain⟨a,_,e⟩:=r;exact⟨a,e⟩
 |fz xs=>unfold Rep at r;obtain⟨a,vs,e,_⟩:=r;exact⟨a,e⟩
 |lst xs=>unfold Rep at r;obtain⟨a,vs,e,_⟩:=r;exact⟨a,e⟩
 |tup xs=>unfold Rep at r;obtain⟨a,vs,e,_⟩:=r;exact⟨a,e⟩
 |ob o=>unfold Rep at r;obtain⟨a,e,_⟩:=r;exact⟨a,e⟩
theorem A6(R:RelM gl A X h M){ts:List T}{vs:List V}{n:Nat}{f:Bool}(r:qM A X h ts vs)(hn:n<=h.length)(hf:f=true->Frss gl A X n h M ts vs):Sim gl A X h (QE gl A X n) (.ok ((.lst ts,f),M)) (newL vs h):=by
 have fm:Frm A h (h++[O.lst false vs]):=Frm.app A h _;have hx:h.length∉X:=λz=>Nat.lt_irrefl _ (R.lt _ z);have ha:(h++[O.lst false vs])[h.length]?=some (.lst false vs):=by simp
 refine⟨.ref h.length,_,rfl,fm,R.up _,?_,λe=>?_⟩
 ·show Rep A X _ (.lst ts) _;unfold Rep;exact⟨_,vs,rfl,hx,ha,R.keeps fm r⟩
 ·obtain⟨fp,p,nd,l,R'⟩:=hf e;refine⟨fp++[h.length],?_,?_,?_,R'.addX λa=>by simp only[wD,wQ];grind,New.lst⟩
  ·show FP X _ (.lst ts) _ _;unfold FP;exact⟨_,vs,fp,rfl,hx,ha,zb (R.keepN fm) ts p,rfl⟩
  ·rw[we];refine⟨nd,by simp,?_⟩;rintro a ha b hb rfl;obtain⟨_,vs',q⟩:=jy ts p a ha;simp at hb;have:=qN q;omega
  ·intro a ha;rcases wD.mp ha with z|z
   ·exact l a z
   ·simp at z;omega
theorem B4(R:RelM gl A X h M){ts:List T}{vs:List V}{n:Nat}{f:Bool}(r:qM A X h ts vs)(hf:f=true->Frss gl A X n h M ts vs):Sim gl A X h (QE gl A X n) (.ok ((.tup ts,f),M)) (newT vs h):=by
 have fm:Frm A h (h++[O.tup vs]):=Frm.app A h _;have hx:h.length∉X:=λz=>Nat.lt_irrefl _ (R.lt _ z);have ha:(h++[O.tup vs])[h.length]?=some (.tup vs):=by simp
 refine⟨.ref h.length,_,rfl,fm,R.up _,?_,λe=>?_⟩
 ·show Rep A X _ (.tup ts) _;unfold Rep;exact⟨_,vs,rfl,hx,ha,R.keeps fm r⟩
 ·obtain⟨fp,p,nd,l,R'⟩:=hf e;refine⟨fp,?_,nd,l,R'.up _,New.tup⟩;show FP X _ (.tup ts) _ _;unfold FP;exact⟨_,vs,rfl,hx,ha,zb (R.keepN fm) ts p⟩
theorem K4(R:RelM gl A X h M){ts:List T}{vs:List V}(r:qM A X h ts vs):Sim gl A X h (QE gl A X h.length) (.ok (lT ts,M)) (newL vs h):=
 A6 R r (Nat.le_refl _) λe=>Frss.of_lf R r e
theorem qI(R:RelM gl A X h M){x:V}(fx:flat x=true){n:Nat}:Sim gl A X h (QE gl A X n) (.ok ((.v x,true),M)) (.ok (x,h)):=
 have r:Rep A X h (.v x) x:=by unfold Rep;exact⟨rfl,fx⟩
 ⟨x,h,rfl,Frm.refl A h,R,r,λ_=>Frs.of_lf R r rfl⟩
theorem zC{x w:V}(r:Rep A X h (.v x) w):w=x:=by unfold Rep at r;exact r.1
theorem v4(xs:List T):T.lf (.tup xs)=T.lfs xs:=by rw[T.lf]
theorem qAN(R:RelM gl A X h M){op:BOp}{s t:T}{x y:V}{r:TB}(e:qk M op s t=some r)(r1:Rep A X h s x)(r2:Rep A X h t y):Sim gl A X h (QE gl A X h.length) (.ok (r,M)) (qCQ op x y h):=by
 unfold qk at e;split at e
 ·rename_i i j e1 e2;cases qZ e1;cases qZ e2;cases zC r1;cases zC r2;cases op with
  |add=>cases e;exact qI R rfl
  |sub=>cases e;exact qI R rfl
  |mul=>dsimp only at e;split at e<;>cases e;rename_i c;show Sim _ _ _ _ _ _ (if _ then _ else _);rw[if_pos c];exact qI R rfl
  |fdiv=>
   dsimp only at e;show Sim _ _ _ _ _ _ (if _ then _ else _);split at e
   ·rename_i c;cases e;rw[if_pos c];exact qI R rfl
   ·rename_i c;rw[if_neg c];split at e
    ·rename_i c;cases e;rw[if_pos c];exact qI R rfl
    ·cases e
  |mod=>
   dsimp only at e;show Sim _ _ _ _ _ _ (if _ then _ else _);split at e
   ·rename_i c;cases e;rw[if_pos c];exact qI R rfl
   ·rename_i c;rw[if_neg c];split at e
    ·rename_i c;cases e;rw[if_pos c];exact qI R rfl
    ·cases e
  |pow=>dsimp only at e;split at e<;>cases e;rename_i c;show Sim _ _ _ _ _ _ (if _ then _ else _);rw[if_pos c];exact qI R rfl
  |band=>cases e;exact qI R rfl
 ·rename_i k e1 e2;cases qZ e2;cases zC r2;obtain⟨a,rfl⟩:=jY e1 r1;cases op<;>first|cases e|skip
  dsimp only at e;cases em:s.mu M with
  |none=>rw[em]at e;cases e
  |some xs=>
   rw[em]at e;dsimp only[Option.bind_some]at e;split at e<;>cases e;rename_i c;obtain⟨a',vs,ea,m,rs⟩:=Q5 R r1 em;cases ea;have lv:vs.length=xs.length:=(qC (reps_iff.mp rs)).symm;show Sim _ _ _ _ _ _ (match qe h a with|some xs=>_|none=>_);rw[m];dsimp only;rw[if_pos (by rw[lv];exact c)];exact K4 R (reps_iff.mpr (d7 _ (reps_iff.mp rs)))
 ·rename_i e1 e2;obtain⟨a,rfl⟩:=jY e1 r1;obtain⟨b,rfl⟩:=jY e2 r2;cases op<;>first|cases e|skip
  dsimp only at e;split at e
  ·rename_i xs ys;split at e<;>cases e;rename_i c;unfold Rep at r1 r2;obtain⟨a1,vs,ea,n1,k1,q1⟩:=r1;cases ea;obtain⟨b1,us,eb,n2,k2,q2⟩:=r2;cases eb;have lv:vs.length=xs.length:=(qC (reps_iff.mp q1)).symm;have lu:us.length=ys.length:=(qC (reps_iff.mp q2)).symm;have m1:qe h a=none:=by unfold qe;rw[k1]
   have t1:qU h a=some vs:=by unfold qU;rw[k1]
   have t2:qU h b=some us:=by unfold qU;rw[k2]
   have q3:=reps_iff.mpr (qy (reps_iff.mp q1) (reps_iff.mp q2));show Sim _ _ _ _ _ _ (match qe h a,qe h b with|some xs,some ys=>_|_,_=>_);rw[m1];show Sim _ _ _ _ _ _ (match qU h a,qU h b with|some xs,some ys=>_|_,_=>_);rw[t1,t2];dsimp only;rw[if_pos ⟨λz=>c.1 (by subst z;exact List.length_eq_zero_iff.mp lv.symm),by rw[lv,lu];exact c.2⟩];split
   ·rename_i z;subst z;have y0:ys=[]:=List.length_eq_zero_iff.mp lu.symm;subst y0;have r:Rep A X h (.tup (xs++[])) (.ref a):=by
     rw[List.append_nil];unfold Rep;exact⟨a,vs,rfl,n1,k1,q1⟩
    exact⟨_,h,rfl,Frm.refl A h,R,r,λe=>Frs.of_lf R r (by rw[v4];exact e)⟩
   ·exact B4 R q3 λe=>Frss.of_lf R q3 e
  cases em:s.mu M with
  |none=>rw[em]at e;cases e
  |some xs=>
   rw[em]at e;dsimp only[Option.bind_some]at e;cases en:t.mu M with
   |none=>rw[en]at e;cases e
   |some ys=>
    rw[en]at e;dsimp only[Option.bind_some]at e;split at e<;>cases e;rename_i c;obtain⟨a',vs,ea,m,rs⟩:=Q5 R r1 em;cases ea;obtain⟨b',us,eb,m2,rs2⟩:=Q5 R r2 en;cases eb;have lv:vs.length=xs.length:=(qC (reps_iff.mp rs)).symm;have lu:us.length=ys.length:=(qC (reps_iff.mp rs2)).symm;show Sim _ _ _ _ _ _ (match qe h a,qe h b with|some xs,some ys=>_|_,_=>_);rw[m,m2];dsimp only;rw[if_pos (by rw[lv,lu];exact c)];exact K4 R (reps_iff.mpr (qy (reps_iff.mp rs) (reps_iff.mp rs2)))
 ·cases e
theorem I0{x:V}{b:Bool}(e:eqF x x=some b):b=true:=by
 cases x with
 |int i=>cases e;exact vb i
 |bl i=>cases e;exact vb i
 |str i=>cases e;exact vb i
 |non=>cases e;rfl
 |_=>cases e
theorem jP{f:T->T->Option Bool}(hf:∀t b,f t t=some b->b=true):∀(ts:List T) bs,zh f ts ts=some bs->bs.all id=true
 | [],bs,e=>by cases e;rfl
 |t::ts,bs,e=>by
  unfold zh at e;split at e
  ·rename_i b bs' e1 e2;cases e;rw[List.all_cons,hf t b e1,jP hf ts bs' e2];rfl
  ·cases e
theorem Zr:∀(n:Nat) (t:T) (b:Bool),eqT M n t t=some b->b=true
 | 0,t,b,e=>by
  unfold eqT at e;split at e
  ·rename_i x y e1 e2;rw[e1]at e2;cases e2;exact I0 e
  ·cases e
 |n+1,t,b,e=>by
  unfold eqT at e;split at e
  ·rename_i x y e1 e2;rw[e1]at e2;cases e2;exact I0 e
  ·rename_i e1 e2;rw[e1]at e2;cases e2
  ·rename_i e1 e2;rw[e1]at e2;cases e2
  ·split at e
   ·rename_i xs ys e1 e2;rw[e1]at e2;cases e2;rw[if_pos rfl]at e;obtain⟨bs,eb,rfl⟩:=Option.map_eq_some_iff.mp e;exact jP (Zr n) xs bs eb
   ·rename_i e1 e2;rw[e1]at e2;cases e2
   ·rename_i e1 e2;rw[e1]at e2;cases e2
   ·split at e
    ·rename_i xs ys e1 e2;rw[e1]at e2;cases e2;rw[if_pos rfl]at e;obtain⟨bs,eb,rfl⟩:=Option.map_eq_some_iff.mp e;exact jP (Zr n) xs bs eb
    ·cases e
theorem QS{f:T->T->Option Bool}{g:V->V->Option Bool}(hf:∀s t x y b,Rep A X h s x->Rep A X h t y->f s t=some b->g x y=some b):∀{ss ts:List T}{xs ys:List V}{bs:List Bool},qM A X h ss xs->qM A X h ts ys->zh f ss ts=some bs->ZA g xs ys=some bs
 | [],[],xs,ys,bs,r1,r2,e=>by unfold qM at r1 r2;subst r1 r2;exact e
 | [],t::ts,xs,ys,bs,r1,r2,e=>by cases e
 |s::ss,[],xs,ys,bs,r1,r2,e=>by cases e
 |s::ss,t::ts,xs,ys,bs,r1,r2,e=>by
  unfold qM at r1 r2;obtain⟨x,xs',rfl,a1,a2⟩:=r1;obtain⟨y,ys',rfl,b1,b2⟩:=r2;unfold zh at e;split at e
  ·rename_i b bs' e1 e2;cases e;unfold ZA;rw[hf s t x y b a1 b1 e1,QS hf a2 b2 e2]
  ·cases e
theorem jw{x w:V}(r:Rep A X h (.v x) w):flat x=true:=by unfold Rep at r;exact r.2
theorem J4(R:RelM gl A X h M){t:T}{a:Nat}(r:Rep A X h t (.ref a))(hs:(t.its M).isSome=true):(items h a).isSome=true:=by
 cases t with
 |v x=>unfold Rep at r;exact(jD r.2 r.1).elim
 |cell n=>unfold Rep at r;obtain⟨b,eb,e⟩:=r;cases e;obtain⟨_,_,_,q,_⟩:=R.at_ n _ eb;unfold items;rw[q];rfl
 |fz xs=>unfold Rep at r;obtain⟨b,vs,e,_,q,_⟩:=r;cases e;unfold items;rw[q];rfl
 |lst xs=>unfold Rep at r;obtain⟨b,vs,e,_,q,_⟩:=r;cases e;unfold items;rw[q];rfl
 |tup xs=>unfold Rep at r;obtain⟨b,vs,e,_,q,_⟩:=r;cases e;unfold items;rw[q];rfl
 |ob o=>cases hs
theorem E7{t:T}{w:V}{ts:List T}(r:Rep A X h t w)(e1:t.isV=none)(e2:t.lis M=none)(e:t.its M=some ts):∃a vs,w=.ref a/\h[a]?=some (.tup vs)/\qM A X h ts vs:=by
 cases t with
 |v x=>cases e1
 |cell n=>have z:M[n]?=some ts:=e;have z2:M[n]?=none:=e2;rw[z]at z2;cases z2
 |fz xs=>cases e2
 |lst xs=>cases e2
 |tup xs=>unfold Rep at r;obtain⟨b,vs,e',_,q,k⟩:=r;cases e;exact⟨b,vs,e',q,k⟩
 |ob o=>cases e
theorem Y2{n:Nat}{x y:V}(fx:flat x=true)(fy:flat y=true):eqD h (n+1) x y=eqF x y:=by
 cases x<;>cases y<;>first|rfl|(simp[flat]at fx;done)|(simp[flat]at fy;done)
theorem JG(R:RelM gl A X h M):∀(n:Nat) (s t:T) (x y:V) (b:Bool),Rep A X h s x->Rep A X h t y->eqT M n s t=some b->eqD h n x y=some b
 | 0,s,t,x,y,b,r1,r2,e=>by
  unfold eqT at e;split at e
  ·rename_i x' y' e1 e2;cases qZ e1;cases qZ e2;cases zC r1;cases zC r2;unfold eqD;exact e
  ·cases e
 |n+1,s,t,x,y,b,r1,r2,e=>by
  unfold eqT at e;split at e
  ·rename_i x' y' e1 e2;cases qZ e1;cases qZ e2;cases zC r1;cases zC r2;rw[Y2 (jw r1) (jw r2)];exact e
  ·rename_i x' e1 e2;cases qZ e1;cases zC r1;obtain⟨c,rfl⟩:=jY e2 r2;have fx:=jw r1;split at e<;>cases e;rename_i hz;have:=J4 R r2 hz;cases x<;>first|(unfold eqD;simp[flat,this];done)|(simp[flat]at fx;done)
  ·rename_i y' e1 e2;cases qZ e2;cases zC r2;obtain⟨c,rfl⟩:=jY e1 r1;have fx:=jw r2;split at e<;>cases e;rename_i hz;have:=J4 R r1 hz;cases y<;>first|(unfold eqD;simp[flat,this];done)|(simp[flat]at fx;done)
  ·rename_i e1 e2;obtain⟨c,rfl⟩:=jY e1 r1;obtain⟨d,rfl⟩:=jY e2 r2;have same:c=d->b=true:=by
    rintro rfl;have:=N8 R.nd R.sub s t r1 r2;subst this;refine Zr (M:=M) (n+1) s b ?_;unfold eqT;rw[e1];exact e
   split at e
   ·rename_i xs ys l1 l2;obtain⟨_,vs,f1,q1,k1,m1⟩:=zr R r1 l1;cases q1;obtain⟨_,us,f2,q2,k2,m2⟩:=zr R r2 l2;cases q2;unfold eqD;rw[k1,k2];dsimp only;by_cases hcd:c=d
    ·rw[if_pos hcd,same hcd]
    ·rw[if_neg hcd,<-qC (reps_iff.mp m1),<-qC (reps_iff.mp m2)];split at e
     ·rename_i hl;rw[if_pos hl];obtain⟨bs,eb,rfl⟩:=Option.map_eq_some_iff.mp e;rw[QS (λs t x y b a1 a2 a3=>JG R n s t x y b a1 a2 a3) m1 m2 eb];rfl
     ·rename_i hl;rw[if_neg hl];exact e
   ·rename_i l1 l2;obtain⟨_,vs,f1,q1,k1,m1⟩:=zr R r1 l1;cases q1;split at e<;>cases e;rename_i z;cases ei:t.its M with
    |none=>rw[ei]at z;cases z
    |some ys=>
     obtain⟨_,us,q2,k2,m2⟩:=E7 r2 e2 l2 ei;cases q2;unfold eqD;rw[k1,k2]
   ·rename_i l1 l2;obtain⟨_,vs,f1,q1,k1,m1⟩:=zr R r2 l2;cases q1;split at e<;>cases e;rename_i z;cases ei:s.its M with
    |none=>rw[ei]at z;cases z
    |some ys=>
     obtain⟨_,us,q2,k2,m2⟩:=E7 r1 e1 l1 ei;cases q2;unfold eqD;rw[k1,k2]
   ·rename_i l1 l2;split at e
    ·rename_i xs ys i1 i2;obtain⟨_,vs,q1,k1,m1⟩:=E7 r1 e1 l1 i1;cases q1;obtain⟨_,us,q2,k2,m2⟩:=E7 r2 e2 l2 i2;cases q2;unfold eqD;rw[k1,k2];dsimp only;by_cases hcd:c=d
     ·rw[if_pos hcd,same hcd]
     ·rw[if_neg hcd,<-qC (reps_iff.mp m1),<-qC (reps_iff.mp m2)];split at e
      ·rename_i hl;rw[if_pos hl];obtain⟨bs,eb,rfl⟩:=Option.map_eq_some_iff.mp e;rw[QS (λs t x y b a1 a2 a3=>JG R n s t x y b a1 a2 a3) m1 m2 eb];rfl
      ·rename_i hl;rw[if_neg hl];obtain⟨bs,eb,rfl⟩:=Option.map_eq_some_iff.mp e;rw[QS (λs t x y b a1 a2 a3=>JG R n s t x y b a1 a2 a3) (reps_iff.mpr (zK _ (reps_iff.mp m1))) (reps_iff.mpr (zK _ (reps_iff.mp m2))) eb];rfl
    ·cases e
theorem D4:∀{ts:List T}{vs xs:List V},qM A X h ts vs->jQ ts=some xs->vs=xs/\xs.all flat=true
 | [],vs,xs,r,e=>by unfold qM at r;subst r;cases e;exact⟨rfl,rfl⟩
 |t::ts,vs,xs,r,e=>by
  unfold qM at r;obtain⟨v,vs',rfl,a,b⟩:=r;cases t with
  |v x=>
   unfold jQ at e;obtain⟨xs',e',rfl⟩:=Option.map_eq_some_iff.mp e;obtain⟨rfl,k⟩:=D4 b e';cases zC a;exact⟨rfl,by rw[List.all_cons,jw a,k];rfl⟩
  |_=>cases e
theorem qAK{t:T}{kvs:List (Int×V)}{w:V}(e:t.dct=some kvs)(r:Rep A X h t w):∃p:Nat,w=.ref p/\p∉X/\h[p]?=some (.ob (.dct kvs)):=by
 cases t with
 |ob o=>
  cases o with
  |dct k=>cases e;unfold Rep at r;exact r
  |exn c=>cases e
 |_=>cases e
theorem k7(R:RelM gl A X h M){s t:T}{x y:V}{b:Bool}(r1:Rep A X h s x)(r2:Rep A X h t y)(e:inT M s t=some b):W9 .inn x y h=some b/\W9 .notin x y h=some (!b):=by
 unfold inT at e;cases hd:t.dct with
 |some kvs=>
  rw[hd]at e;obtain⟨p,rfl,q1,q2⟩:=qAK hd r2;have i0:items h p=none:=by unfold items;rw[q2]
  have d0:Jv h p=some kvs:=by unfold Jv;rw[q2]
  dsimp only at e;split at e
  ·cases e;cases zC r1;constructor
   ·dsimp only[W9,j2];rw[i0];dsimp only;rw[d0]
   ·dsimp only[W9,j2];rw[i0];dsimp only;rw[d0]
  ·cases e
 |none=>
 rw[hd]at e;dsimp only at e;obtain⟨a,ea,e⟩:=Option.bind_eq_some_iff.mp e;obtain⟨ts,et,e⟩:=Option.bind_eq_some_iff.mp e;obtain⟨xs,ex,rfl⟩:=Option.map_eq_some_iff.mp e;cases qZ ea;cases zC r1;obtain⟨p,vs,rfl,q1,q2⟩:=D5 R r2 et;obtain⟨rfl,k⟩:=D4 q2 ex;have fx:=jw r1;constructor
 ·dsimp only[W9,j2];rw[q1];dsimp only;rw[if_pos (by rw[fx,k];rfl)]
 ·dsimp only[W9,j2];rw[q1];dsimp only;rw[if_pos (by rw[fx,k];rfl)]
theorem Jx(R:RelM gl A X h M){op:COp}{s t:T}{x y:V}{b:Bool}(r1:Rep A X h s x)(r2:Rep A X h t y)(e:qo M op s t=some b):W9 op x y h=some b:=by
 cases op with
 |eq=>exact JG R 4 s t x y b r1 r2 e
 |ne=>
  obtain⟨c,ec,rfl⟩:=Option.map_eq_some_iff.mp (show (eqT M 4 s t).map (!·)=some b from e);show (eqD h 4 x y).map (!·)=_;rw[JG R 4 s t x y c r1 r2 ec];rfl
 |inn=>exact(k7 R r1 r2 e).1
 |notin=>
  obtain⟨c,ec,rfl⟩:=Option.map_eq_some_iff.mp (show (inT M s t).map (!·)=some b from e);exact(k7 R r1 r2 ec).2
 |is=>
  unfold qo at e;dsimp only at e;split at e
  ·rename_i e2;cases qZ e2;cases zC r2;cases e;show some (decide (x=V.non))=_;cases hs:s.isV with
   |none=>obtain⟨a,rfl⟩:=jY hs r1;rfl
   |some z=>cases qZ hs;cases zC r1;cases x<;>rfl
  ·rename_i e2;cases qZ e2;cases zC r2;split at e
   ·rename_i e3;cases qZ e3;cases zC r1;exact e
   ·cases e
  ·cases e
 |isnot=>
  unfold qo at e;dsimp only at e;split at e
  ·rename_i e2;cases qZ e2;cases zC r2;cases e;show some (!decide (x=V.non))=_;cases hs:s.isV with
   |none=>obtain⟨a,rfl⟩:=jY hs r1;rfl
   |some z=>cases qZ hs;cases zC r1;cases x<;>rfl
  ·rename_i e2;cases qZ e2;cases zC r2;split at e
   ·rename_i e3;cases qZ e3;cases zC r1;exact e
   ·cases e
  ·cases e
 |lt=>unfold qo at e;dsimp only at e;split at e<;>first|(rename_i e1 e2;cases qZ e1;cases qZ e2;cases zC r1;cases zC r2;exact e)|cases e
 |le=>unfold qo at e;dsimp only at e;split at e<;>first|(rename_i e1 e2;cases qZ e1;cases qZ e2;cases zC r1;cases zC r2;exact e)|cases e
 |gt=>unfold qo at e;dsimp only at e;split at e<;>first|(rename_i e1 e2;cases qZ e1;cases qZ e2;cases zC r1;cases zC r2;exact e)|cases e
 |ge=>unfold qo at e;dsimp only at e;split at e<;>first|(rename_i e1 e2;cases qZ e1;cases qZ e2;cases zC r1;cases zC r2;exact e)|cases e
theorem B9:∀{ts:List T}{vs:List V}{is:List Int},qM A X h ts vs->za ts=some is->jH vs=some is
 | [],vs,xs,r,e=>by unfold qM at r;subst r;cases e;rfl
 |t::ts,vs,xs,r,e=>by
  unfold qM at r;obtain⟨v,vs',rfl,a,b⟩:=r;unfold za at e;split at e
  ·rename_i e';cases e'
  ·rename_i e';cases e';obtain⟨xs',e',rfl⟩:=Option.map_eq_some_iff.mp e;cases zC a;show (jH vs').map _=_;rw[B9 b e'];rfl
  ·cases e
theorem B5:∀{ts:List T}{vs:List V}{is:List Int},qM A X h ts vs->jJ ts=some is->zp vs=some is
 | [],vs,xs,r,e=>by unfold qM at r;subst r;cases e;rfl
 |t::ts,vs,xs,r,e=>by
  unfold qM at r;obtain⟨v,vs',rfl,a,b⟩:=r;unfold jJ at e;split at e
  ·rename_i e';cases e'
  ·rename_i e';cases e';obtain⟨xs',e',rfl⟩:=Option.map_eq_some_iff.mp e;cases zC a;show (zp vs').map _=_;rw[B5 b e'];rfl
  ·rename_i e';cases e';obtain⟨xs',e',rfl⟩:=Option.map_eq_some_iff.mp e;cases zC a;show (zp vs').map _=_;rw[B5 b e'];rfl
  ·cases e
theorem Zm:∀{ts:List T}{vs:List V}{is:List Bool},qM A X h ts vs->zH ts=some is->jM vs=some is
 | [],vs,xs,r,e=>by unfold qM at r;subst r;cases e;rfl
 |t::ts,vs,xs,r,e=>by
  unfold qM at r;obtain⟨v,vs',rfl,a,b⟩:=r;unfold zH at e;split at e
  ·rename_i e';cases e'
  ·rename_i e';cases e';obtain⟨xs',e',rfl⟩:=Option.map_eq_some_iff.mp e;cases zC a;show (jM vs').map _=_;rw[Zm b e'];rfl
  ·cases e
theorem QG{t:T}{ws:List V}(r:qM A X h [t] ws):∃w,ws=[w]/\Rep A X h t w:=by
 unfold qM at r;obtain⟨v,vs,rfl,a,b⟩:=r;unfold qM at b;subst b;exact⟨v,rfl,a⟩
theorem qA4{s t:T}{ws:List V}(r:qM A X h [s,t] ws):∃w u,ws=[w,u]/\Rep A X h s w/\Rep A X h t u:=by
 unfold qM at r;obtain⟨v,vs,rfl,a,b⟩:=r;obtain⟨u,rfl,c⟩:=QG b;exact⟨v,u,rfl,a,c⟩
theorem qS{a:Nat}{f:Bool}{vs:List V}(e:h[a]?=some (.lst f vs)):qQ h a=some vs:=by unfold qQ;rw[e]
theorem A9(R:RelM gl A X h M){t:T}{w:V}{n:Nat}(r:Rep A X h t w):Sim gl A X h (QE gl A X n) (.ok ((t,t.lf),M)) (.ok (w,h)):=
 ⟨w,h,rfl,Frm.refl A h,R,r,λe=>Frs.of_lf R r e⟩
theorem ZY{f:T->Option PySem.PyData}{g:V->Option PySem.PyData}(hf:∀t w d,f t=some d->Rep A X h t w->g w=some d):∀(ts:List T) (ws:List V) (ds:List PySem.PyData),zO f ts=some ds->qM A X h ts ws->J8 g ws=some ds
 | [],ws,ds,e,r=>by
  unfold qM at r;subst r;exact e
 |t::ts,ws,ds,e,r=>by
  unfold qM at r;obtain⟨w,ws',rfl,r1,r2⟩:=r;unfold zO at e;obtain⟨d,e1,e⟩:=Option.bind_eq_some_iff.mp e;obtain⟨ds',e2,rfl⟩:=Option.map_eq_some_iff.mp e;unfold J8;rw[hf t w d e1 r1,Option.bind_some,ZY hf ts ws' ds' e2 r2];rfl
theorem C2{h:AH}{n:Nat}{x:V}{d:PySem.PyData}(e:j0 x=some d):dat h n x=some d:=by
 cases n with
 |zero=>exact e
 |succ n=>cases x<;>first|exact e|cases e
theorem B8(R:RelM gl A X h M):∀(n:Nat) (t:T) (w:V) (d:PySem.PyData),Jq M n t=some d->Rep A X h t w->dat h n w=some d
 | 0,t,w,d,e,r=>by
  unfold Jq at e;split at e
  ·cases zC r;exact C2 e
  ·cases e
 |n+1,t,w,d,e,r=>by
  have ls:∀(ts:List T),t.lis M=some ts->(zO (Jq M n) ts).map PySem.PyData.list=some d->dat h (n+1) w=some d:=λts hl e=>by
   obtain⟨ds,e1,rfl⟩:=Option.map_eq_some_iff.mp e;obtain⟨a,vs,f,rfl,q1,q2⟩:=zr R r hl;show (match h[a]? with|some (.lst _ xs)=>(J8 (dat h n) xs).map PySem.PyData.list|some (.tup xs)=>(J8 (dat h n) xs).map PySem.PyData.tuple|some (.ob (.dct []))=>some (PySem.PyData.dict [])|_=>none)=_;rw[q1];dsimp only;rw[ZY (B8 R n) ts vs ds e1 q2];rfl
  unfold Jq at e;split at e
  ·cases zC r;exact C2 e
  ·rename_i ts;obtain⟨ds,e1,rfl⟩:=Option.map_eq_some_iff.mp e;unfold Rep at r;obtain⟨a,vs,rfl,q1,q2,q3⟩:=r;show (match h[a]? with|some (.lst _ xs)=>(J8 (dat h n) xs).map PySem.PyData.list|some (.tup xs)=>(J8 (dat h n) xs).map PySem.PyData.tuple|some (.ob (.dct []))=>some (PySem.PyData.dict [])|_=>none)=_;rw[q2];dsimp only;rw[ZY (B8 R n) ts vs ds e1 q3];rfl
  ·exact ls _ rfl e
  ·exact ls _ rfl e
  ·obtain⟨ts,e1,e2⟩:=Option.bind_eq_some_iff.mp e;exact ls ts e1 e2
  ·cases e;unfold Rep at r;obtain⟨a,rfl,_,q⟩:=r;show (match h[a]? with|some (.lst _ xs)=>(J8 (dat h n) xs).map PySem.PyData.list|some (.tup xs)=>(J8 (dat h n) xs).map PySem.PyData.tuple|some (.ob (.dct []))=>some (PySem.PyData.dict [])|_=>none)=_;rw[q]
  ·cases e
theorem Y6(R:RelM gl A X h M)(t:T)(w:V)(d:PySem.PyData)(e:X6 M t=some d)(r:Rep A X h t w):qDc h w=some d:=B8 R 5 t w d e r
theorem qAM(R:RelM gl A X h M){f:BF}{ts:List T}{ws:List V}{r:TB}(rs:qM A X h ts ws)(e:zi M f ts=some r):Sim gl A X h (QE gl A X h.length) (.ok (r,M)) (qCn f ws h):=by
 cases f with
 |len=>
  replace e:=zS e;obtain⟨t0,rfl,e⟩:=e;obtain⟨w,rfl,rw_⟩:=QG rs;obtain⟨xs,ex,rfl⟩:=Option.map_eq_some_iff.mp e;obtain⟨a,vs,rfl,q1,q2⟩:=D5 R rw_ ex;show Sim _ _ _ _ _ _ (match items h a with|some xs=>_|none=>_);rw[q1,qC (reps_iff.mp q2)];exact qI R rfl
 |sum=>
  replace e:=zS e;obtain⟨t0,rfl,e⟩:=e;obtain⟨w,rfl,rw_⟩:=QG rs;obtain⟨xs,ex,e⟩:=Option.bind_eq_some_iff.mp e;obtain⟨is,ei,rfl⟩:=Option.map_eq_some_iff.mp e;obtain⟨a,vs,f,rfl,q1,q2⟩:=zr R rw_ ex;show Sim _ _ _ _ _ _ (match qQ h a with|some xs=>_|none=>_);rw[qS q1];dsimp only;rw[B5 q2 ei];exact qI R rfl
 |all=>
  replace e:=zS e;obtain⟨t0,rfl,e⟩:=e;obtain⟨w,rfl,rw_⟩:=QG rs;obtain⟨xs,ex,e⟩:=Option.bind_eq_some_iff.mp e;obtain⟨is,ei,rfl⟩:=Option.map_eq_some_iff.mp e;obtain⟨a,vs,f,rfl,q1,q2⟩:=zr R rw_ ex;show Sim _ _ _ _ _ _ (match qQ h a with|some xs=>_|none=>_);rw[qS q1];dsimp only;rw[Zm q2 ei];exact qI R rfl
 |any=>
  replace e:=zS e;obtain⟨t0,rfl,e⟩:=e;obtain⟨w,rfl,rw_⟩:=QG rs;obtain⟨xs,ex,e⟩:=Option.bind_eq_some_iff.mp e;obtain⟨is,ei,rfl⟩:=Option.map_eq_some_iff.mp e;obtain⟨a,vs,f,rfl,q1,q2⟩:=zr R rw_ ex;show Sim _ _ _ _ _ _ (match qQ h a with|some xs=>_|none=>_);rw[qS q1];dsimp only;rw[Zm q2 ei];exact qI R rfl
 |max=>
  replace e:=twoT_inv e;obtain⟨i,j,rfl,e⟩:=e;obtain⟨w,u,rfl,a,b⟩:=qA4 rs;cases zC a;cases zC b;cases e;exact qI R rfl
 |min=>
  replace e:=twoT_inv e;obtain⟨i,j,rfl,e⟩:=e;obtain⟨w,u,rfl,a,b⟩:=qA4 rs;cases zC a;cases zC b;cases e;exact qI R rfl
 |bits=>
  replace e:=zS e;obtain⟨t0,rfl,e⟩:=e;split at e
  ·obtain⟨w,rfl,a⟩:=QG rs;cases zC a;cases e;exact qI R rfl
  ·cases e
 |list=>
  replace e:=zS e;obtain⟨t0,rfl,e⟩:=e;obtain⟨w,rfl,rw_⟩:=QG rs;obtain⟨xs,ex,rfl⟩:=Option.map_eq_some_iff.mp e;obtain⟨a,vs,rfl,q1,q2⟩:=D5 R rw_ ex;show Sim _ _ _ _ _ _ (match items h a with|some xs=>_|none=>_);rw[q1];exact K4 R q2
 |int=>
  replace e:=zS e;obtain⟨t0,rfl,e⟩:=e;split at e
  ·obtain⟨w,rfl,a⟩:=QG rs;cases zC a;cases e;exact qI R rfl
  ·obtain⟨w,rfl,a⟩:=QG rs;cases zC a;cases e;exact qI R rfl
  ·cases e
 |repr=>
  replace e:=zS e;obtain⟨t0,rfl,e⟩:=e;obtain⟨w,rfl,rw_⟩:=QG rs;obtain⟨v,e0,rfl⟩:=Option.map_eq_some_iff.mp e;obtain⟨d,e1,e2⟩:=Option.bind_eq_some_iff.mp e0;have e3:=Y6 R t0 w d e1 rw_;show Sim _ _ _ _ _ _ (qCg h w);unfold qCg;rw[e3,Option.bind_some,e2];unfold Qz at e2;split at e2
  ·cases e2;exact qI R rfl
  ·cases e2
theorem Z2(R:RelM gl A X h M){t:T}{w:V}{s:String}(r:Rep A X h t w)(e:zN M t=some s):zk h w=some s:=by
 cases t with
 |v x=>cases zC r;cases w<;>first|exact e|(cases e;done)
 |cell n=>unfold Rep at r;obtain⟨a,ea,rfl⟩:=r;obtain⟨ts,vs,e1,e2,_⟩:=R.at_ n a ea;unfold zN at e;dsimp only at e;rw[e1]at e;cases e;unfold zk;dsimp only;rw[e2]
 |fz xs=>unfold Rep at r;obtain⟨a,vs,rfl,_,q,_⟩:=r;cases e;unfold zk;dsimp only;rw[q]
 |lst xs=>unfold Rep at r;obtain⟨a,vs,rfl,_,q,_⟩:=r;cases e;unfold zk;dsimp only;rw[q]
 |tup xs=>unfold Rep at r;obtain⟨a,vs,rfl,_,q,_⟩:=r;cases e;unfold zk;dsimp only;rw[q]
 |ob o=>cases o with
  |dct=>unfold Rep at r;obtain⟨a,rfl,_,q⟩:=r;cases e;unfold zk;dsimp only;rw[q]
  |exn c=>cases e
theorem JO{ts:List T}{vs:List V}{lo hi:Option Int}(r:qM A X h ts vs):qM A X h (QB ts lo hi) (L2.cutV vs lo hi):=by
 have l:=qC (reps_iff.mp r);unfold QB L2.cutV;rw[l];exact reps_iff.mpr (zK _ (jl _ (reps_iff.mp r)))
end
def qAu(A X:List Nat)(h:AH):Option T->Option V->Prop
 |none,_=>True
 |some t,some w=>Rep A X h t w
 |some _,none=>False
abbrev jU(A X:List Nat)(h:AH):TS->List (Option V)->Prop:=jE (qAu A X h)
section
variable{gl:List T}{A X:List Nat}{h h':AH}{M M':Mem}{σ:TS}{σh:List (Option V)}
theorem D8{i:Nat}{t:T}(r:jU A X h σ σh)(e:σ[i]?=some (some t)):∃w,σh[i]?=some (some w)/\Rep A X h t w:=by
 obtain⟨o,e1,q⟩:=qz r e;cases o with
 |none=>exact q.elim
 |some w=>exact⟨w,e1,q⟩
theorem zd{A' X':List Nat}(hc:∀(n:Nat) a,A[n]?=some a->A'[n]?=some a)(hn:∀a o,a∉X->h[a]?=some o->a∉X'/\h'[a]?=some o)(r:jU A X h σ σh):jU A' X' h' σ σh:=
 JY (λx y q=>by
  cases x with
  |none=>trivial
  |some t=>cases y with
   |none=>exact q.elim
   |some w=>exact qp hc hn t q) r
theorem RelM.keepS(R:RelM gl A X h M)(f:Frm A h h')(r:jU A X h σ σh):jU A X h' σ σh:=zd (λ_ _ e=>e) (R.keepN f) r
theorem jq(r:jU A X h σ σh):∀src:List (Option Nat),jU A X h (zu src σ) (L2.inner src σh)
 | []=>rfl
 |none::src=>⟨none,_,rfl,trivial,jq r src⟩
 |some j::src=>by
  refine⟨(σh[j]?).join,_,rfl,?_,jq r src⟩;show qAu A X h (σ[j]?).join _;cases hj:σ[j]? with
  |none=>trivial
  |some o=>cases o with
   |none=>trivial
   |some t=>
    obtain⟨w,e1,q⟩:=D8 r hj;rw[e1];exact q
theorem N4:∀{is:List Nat}{ts:List T}{ws:List V}{σ σ1:TS}{σh:List (Option V)},qB8 is ts σ=some σ1->qM A X h ts ws->jU A X h σ σh->∃σh1,ZL is ws σh=some σh1/\jU A X h σ1 σh1
 | [],[],ws,σ,σ1,σh,e,r,rs=>by unfold qM at r;subst r;cases e;exact⟨σh,rfl,rs⟩
 | [],t::ts,ws,σ,σ1,σh,e,r,rs=>by cases e
 |i::is,[],ws,σ,σ1,σh,e,r,rs=>by cases e
 |i::is,t::ts,ws,σ,σ1,σh,e,r,rs=>by
  unfold qM at r;obtain⟨w,ws',rfl,a,b⟩:=r;exact N4 (is:=is) (show qB8 is ts (σ.set i (some t))=some σ1 from e) b (zx i rs (show qAu A X h (some t) (some w) from a))
theorem jc{g:Tg}{t:T}{w:V}{σ1:TS}(e:zR g t σ=some σ1)(r:Rep A X h t w)(rs:jU A X h σ σh):∃σh1,store g w σh h=some σh1/\jU A X h σ1 σh1:=by
 cases g with
 |name i=>cases e;exact⟨σh.set i (some w),rfl,zx i rs (show qAu A X h (some t) (some w) from r)⟩
 |tup is=>
  cases t with
  |tup ts=>
   unfold Rep at r;obtain⟨a,vs,rfl,_,q,k⟩:=r;obtain⟨σh1,e1,r1⟩:=N4 (show qB8 is ts σ=some σ1 from e) k rs;refine⟨σh1,?_,r1⟩;show (match qU h a with|some xs=>_|none=>_)=_;rw[show qU h a=some vs by unfold qU;rw[q]];exact e1
  |_=>cases e
inductive Ql(A X:List Nat)(h:AH):Src->List T->QC->Prop
 |list (a f vs ts):a∉X->h[a]?=some (.lst f vs)->qM A X h ts vs->Ql A X h (.list a) ts []
 |cell (n a vs ts):A[n]?=some a->h[a]?=some (.lst false vs)->qM A X h ts vs->Ql A X h (.list a) ts [(n,ts)]
 |tupl (a vs ts):a∉X->h[a]?=some (.tup vs)->qM A X h ts vs->Ql A X h (.tupl a) ts []
 |rng (lo n):Ql A X h (.rng lo n) (qf lo n) []
 |zip (a b ts us d1 d2):Ql A X h (.list a) ts d1->Ql A X h (.list b) us d2->Ql A X h (.zip a b) (List.zipWith (λx y=>T.tup [x,y]) ts us) (d1++d2)
theorem jC{d1 d2:QC}(e:qY (d1++d2) M=true):qY d1 M=true/\qY d2 M=true:=by
 unfold qY at e ⊢;rw[List.all_append,Bool.and_eq_true]at e;exact e
theorem M9{s:Src}{ts:List T}{d:QC}(r:Ql A X h s ts d)(hn:∀a o,a∉X->h[a]?=some o->h'[a]?=some o)(R:RelM gl A X h' M')(hd:qY d M'=true):Ql A X h' s ts d:=by
 induction r with
 |list a f vs ts q1 q2 q3=>exact .list a f vs ts q1 (hn _ _ q1 q2) (qP (λ_ _ e=>e) (λa o x y=>⟨x,hn a o x y⟩) ts q3)
 |cell n a vs ts q1 q2 q3=>
  obtain⟨ts',vs',e1,e2,e3⟩:=R.at_ n a q1;unfold qY at hd;simp only[List.all_cons,List.all_nil,Bool.and_true]at hd;rw[e1]at hd;have:=jr _ _ hd;subst this;exact .cell n a vs' ts' q1 e2 e3
 |tupl a vs ts q1 q2 q3=>exact .tupl a vs ts q1 (hn _ _ q1 q2) (qP (λ_ _ e=>e) (λa o x y=>⟨x,hn a o x y⟩) ts q3)
 |rng lo n=>exact .rng lo n
 |zip a b ts us d1 d2 _ _ i1 i2=>exact .zip a b ts us d1 d2 (i1 (jC hd).1) (i2 (jC hd).2)
theorem ZB{A' X':List Nat}{s:Src}{ts:List T}{d:QC}(r:Ql A X h s ts d)(hn:∀a o,a∉X->h[a]?=some o->a∉X'/\h'[a]?=some o)(R:RelM gl A' X' h' M')(hd:qY d M'=true)(hA:∀(n:Nat) a,A[n]?=some a->A'[n]?=some a:=by exact λ_ _ e=>e):Ql A' X' h' s ts d:=by
 induction r with
 |list a f vs ts q1 q2 q3=>exact .list a f vs ts (hn _ _ q1 q2).1 (hn _ _ q1 q2).2 (qP hA hn ts q3)
 |cell n a vs ts q1 q2 q3=>
  obtain⟨ts',vs',e1,e2,e3⟩:=R.at_ n a (hA _ _ q1);unfold qY at hd;simp only[List.all_cons,List.all_nil,Bool.and_true]at hd;rw[e1]at hd;have:=jr _ _ hd;subst this;exact .cell n a vs' ts' (hA _ _ q1) e2 e3
 |tupl a vs ts q1 q2 q3=>exact .tupl a vs ts (hn _ _ q1 q2).1 (hn _ _ q1 q2).2 (qP hA hn ts q3)
 |rng lo n=>exact .rng lo n
 |zip a b ts us d1 d2 _ _ i1 i2=>exact .zip a b ts us d1 d2 (i1 (jC hd).1) (i2 (jC hd).2)
theorem zZ{a:Nat}{ts:List T}{d:QC}(r:Ql A X h (.list a) ts d):∃vs,qQ h a=some vs/\qM A X h ts vs:=by
 cases r with
 |list _ f vs _ q1 q2 q3=>exact⟨vs,qS q2,q3⟩
 |cell n _ vs _ q1 q2 q3=>exact⟨vs,qS q2,q3⟩
theorem F8{s:Src}{ts:List T}{d:QC}(r:Ql A X h s ts d):U0 h s=some ts.length:=by
 cases r with
 |list a f vs ts q1 q2 q3=>show (qQ h a).map _=_;rw[qS q2,Option.map_some,qC (reps_iff.mp q3)]
 |cell n a vs ts q1 q2 q3=>show (qQ h a).map _=_;rw[qS q2,Option.map_some,qC (reps_iff.mp q3)]
 |tupl a vs ts q1 q2 q3=>show (qU h a).map _=_;rw[show qU h a=some vs by unfold qU;rw[q2],Option.map_some,qC (reps_iff.mp q3)]
 |rng lo n=>show some n=_;simp[qf]
 |zip a b ts us d1 d2 r1 r2=>
  obtain⟨vs,e1,k1⟩:=zZ r1;obtain⟨ws,e2,k2⟩:=zZ r2;show (match qQ h a,qQ h b with|some xs,some ys=>_|_,_=>_)=_;rw[e1,e2,vC,qC (reps_iff.mp k1),qC (reps_iff.mp k2)]
theorem JJ{s:Src}{ts:List T}{d:QC}(r:Ql A X h s ts d):jk h ts.length s=true:=by
 cases r with
 |list a f vs ts q1 q2 q3=>show (match qQ h a with|some xs=>_|none=>_)=_;rw[qS q2,qC (reps_iff.mp q3)];simp
 |cell n a vs ts q1 q2 q3=>show (match qQ h a with|some xs=>_|none=>_)=_;rw[qS q2,qC (reps_iff.mp q3)];simp
 |tupl a vs ts q1 q2 q3=>show (match qU h a with|some xs=>_|none=>_)=_;rw[show qU h a=some vs by unfold qU;rw[q2],qC (reps_iff.mp q3)];simp
 |rng lo n=>show decide _=_;simp[qf]
 |zip a b ts us d1 d2 r1 r2=>
  obtain⟨vs,e1,k1⟩:=zZ r1;obtain⟨ws,e2,k2⟩:=zZ r2;show (match qQ h a,qQ h b with|some xs,some ys=>_|_,_=>_)=_;rw[e1,e2,vC,qC (reps_iff.mp k1),qC (reps_iff.mp k2)];simp;omega
theorem ZC(R:RelM gl A X h M){s:Src}{ts:List T}{d:QC}(r:Ql A X h s ts d){i:Nat}{t:T}(ei:ts[i]?=some t):
  ∃w e,qq h i s=some (w,h++e)/\Rep A X (h++e) t w:=by
 cases r with
 |list a f vs ts q1 q2 q3=>
  obtain⟨w,ew,q⟩:=qz (reps_iff.mp q3) ei;refine⟨w,[],?_,by rw[List.append_nil];exact q⟩;show (match qQ h a with|some xs=>_|none=>_)=_;rw[qS q2];dsimp only;rw[ew,List.append_nil];rfl
 |cell n a vs ts q1 q2 q3=>
  obtain⟨w,ew,q⟩:=qz (reps_iff.mp q3) ei;refine⟨w,[],?_,by rw[List.append_nil];exact q⟩;show (match qQ h a with|some xs=>_|none=>_)=_;rw[qS q2];dsimp only;rw[ew,List.append_nil];rfl
 |tupl a vs ts q1 q2 q3=>
  obtain⟨w,ew,q⟩:=qz (reps_iff.mp q3) ei;refine⟨w,[],?_,by rw[List.append_nil];exact q⟩;show (match qU h a with|some xs=>_|none=>_)=_;rw[show qU h a=some vs by unfold qU;rw[q2]];dsimp only;rw[ew,List.append_nil];rfl
 |rng lo n=>
  have hi:i<n:=by have:=(List.getElem?_eq_some_iff.mp ei).1;simpa [qf] using this
  refine⟨.int (lo+(i:Int)),[],?_,?_⟩
  ·show (if i<n then _ else _)=_;rw[if_pos hi,List.append_nil]
  ·have:t=.v (.int (lo+(i:Int))):=by
    simp only[qf,wP,List.getElem?_range hi,Option.map_some,Option.some.injEq]at ei;exact ei.symm
   rw[this];unfold Rep;exact⟨rfl,rfl⟩
 |zip a b ts us d1 d2 r1 r2=>
  obtain⟨vs,e1,k1⟩:=zZ r1;obtain⟨ws,e2,k2⟩:=zZ r2;rw[List.getElem?_zipWith]at ei;cases et:ts[i]? with
  |none=>rw[et]at ei;cases ei
  |some x=>
   cases eu:us[i]? with
   |none=>rw[et,eu]at ei;cases ei
   |some y=>
    rw[et,eu]at ei;cases ei;obtain⟨v,ev,qv⟩:=qz (reps_iff.mp k1) et;obtain⟨w,ew,qw⟩:=qz (reps_iff.mp k2) eu;refine⟨.ref h.length,[.tup [v,w]],?_,?_⟩
    ·show (match qQ h a,qQ h b with|some xs,some ys=>_|_,_=>_)=_;rw[e1,e2];dsimp only;rw[ev,ew]
    ·have f:=Frm.app A h [O.tup [v,w]];unfold Rep;refine⟨_,[v,w],rfl,λz=>Nat.lt_irrefl _ (R.lt _ z),by simp,?_⟩;unfold qM;refine⟨v,[w],rfl,R.keep f qv,?_⟩;unfold qM;exact⟨w,[],rfl,R.keep f qw,by unfold qM;rfl⟩
theorem Frs.ofD(R:RelM gl A X h M){kvs:List (Int×V)}(r:Rep A X (h++[O.ob (.dct kvs)]) (.ob (.dct kvs)) (.ref h.length)):Frs gl A X h.length (h++[O.ob (.dct kvs)]) M (.ob (.dct kvs)) (.ref h.length):=
 ⟨[],by unfold Rep at r;unfold FP;exact⟨r,rfl⟩,vE,λa ha=>by simp at ha,by rw[List.append_nil];exact R.up _,λ_ _=>⟨h.length,rfl,Nat.le_refl _,R.addX λa=>by simp only[wD,wQ];grind⟩⟩
theorem RelM.setX(R:RelM gl A X h M){D:Nat}(hD:D∈X)(hA:D∉A)(o:O):RelM gl A X (h.set D o) M:=by
 have hn:∀a o',a∉X->h[a]?=some o'->a∉X/\(h.set D o)[a]?=some o':=λa o' x y=>⟨x,by rw[wH (by rintro rfl;exact x hD)];exact y⟩
 refine⟨R.len,R.nd,R.sub,λa ha=>by simpa using R.lt a ha,λn a e=>?_,λg t e=>qp (λ_ _ e=>e) hn t (R.glo g t e)⟩;obtain⟨ts,vs,e1,e2,e3⟩:=R.at_ n a e;exact⟨ts,vs,e1,by rw[wH (by rintro rfl;exact hA (List.mem_of_getElem? e))];exact e2,qP (λ_ _ e=>e) hn ts e3⟩
theorem Sim.bindW{α β α2 β2:Type}{X':List Nat}{h1:AH}{Q:α->β->AH->Mem->Prop}{Q2:α2->β2->AH->Mem->Prop}{r:PR (α×Mem)}{rh:Res (β×AH)}{f:α×Mem->PR (α2×Mem)}{g:β×AH->Res (β2×AH)}
  (hX:∀a∈X,a∈X') (hA:∀a∈A,a∈X) (f0:Frm A h1 h)
  (s:Sim gl A X' h Q r rh) (k:∀x M' y h',Frm A h h'->RelM gl A X' h' M'->Q x y h' M'->Sim gl A X h1 Q2 (f (x,M')) (g (y,h'))):Sim gl A X h1 Q2 (r.bind f) (rh.bind g):=by
 cases r with
 |ok p=>
  obtain⟨x,M'⟩:=p;obtain⟨y,h',rfl,f1,R1,q⟩:=s;exact k x M' y h' f1 R1 q
 |exc c M'=>
  obtain⟨h',rfl,f1,R1⟩:=s;exact⟨h',rfl,f0.trans f1,R1.weak hX hA⟩
 |stuck=>trivial
mutual
theorem qCZ{X X':List Nat}{h:AH}:∀(t:T){w:V}{f g:List Nat},FP X h t w f->FP X' h t w g->f=g
 | .v x,w,f,g,p,q=>by unfold FP at p q;rw[p.2,q.2]
 | .cell n,w,f,g,p,q=>by unfold FP at p;exact p.elim
 | .fz ts,w,f,g,p,q=>by unfold FP at p;exact p.elim
 | .ob o,w,f,g,p,q=>by unfold FP at p q;rw[p.2,q.2]
 | .lst ts,w,f,g,p,q=>by
  unfold FP at p q;obtain⟨a,vs,f',rfl,_,e1,k1,rfl⟩:=p;obtain⟨b,us,g',e,_,e2,k2,rfl⟩:=q;cases e;rw[e1]at e2;cases e2;rw[Zh ts k1 k2]
 | .tup ts,w,f,g,p,q=>by
  unfold FP at p q;obtain⟨a,vs,rfl,_,e1,k1⟩:=p;obtain⟨b,us,e,_,e2,k2⟩:=q;cases e;rw[e1]at e2;cases e2;exact Zh ts k1 k2
theorem Zh{X X':List Nat}{h:AH}:∀(ts:List T){ws:List V}{f g:List Nat},FPs X h ts ws f->FPs X' h ts ws g->f=g
 | [],w,f,g,p,q=>by unfold FPs at p q;rw[p.2,q.2]
 |t::ts,w,f,g,p,q=>by
  unfold FPs at p q;obtain⟨v,vs,f1,f2,rfl,a,b,rfl⟩:=p;obtain⟨v',vs',g1,g2,e,a',b',rfl⟩:=q;cases e;rw[qCZ t a a',Zh ts b b']
end
theorem C9:∀{ts:List T}{ws:List V}{fp f:List Nat}{t:T}{w:V},FPs X h ts ws fp->FP X h t w f->FPs X h (ts++[t]) (ws++[w]) (fp++f)
 | [],ws,fp,f,t,w,p,q=>by
  unfold FPs at p;obtain⟨rfl,rfl⟩:=p;show FPs X h [t] [w] f;unfold FPs;exact⟨w,[],f,[],rfl,q,by unfold FPs;exact⟨rfl,rfl⟩,by simp⟩
 |s::ts,ws,fp,f,t,w,p,q=>by
  unfold FPs at p;obtain⟨v,vs,f1,f2,rfl,a,b,rfl⟩:=p;show FPs X h (s::(ts++[t])) (v::(vs++[w])) _;unfold FPs;exact⟨v,vs++[w],f1,f2++f,rfl,a,C9 b q,by rw[List.append_assoc]⟩
end
section
variable{gl:List T}{A X:List Nat}
theorem Zu{s:Src}{its:List T}{d:QC}{g:Tg}{c:TS->Mem->PR (Bool×Mem)}{c':List (Option V)->AH->Res (Bool×AH)}{e:TS->Mem->PR (TB×Mem)}{e':List (Option V)->AH->RV}{D:Nat}{h1:AH}
  (hc:∀X h M σ σh,RelM gl A X h M->jU A X h σ σh->Sim gl A X h (λb b' _ _=>b=b') (c σ M) (c' σh h))
  (he:∀X h M σ σh,RelM gl A X h M->jU A X h σ σh->Sim gl A X h (QE gl A X h.length) (e σ M) (e' σh h))
  (hD:h1.length<=D) (hDX:D∉X) (hA:∀a∈A,a∈X):∀(r:List T) (i:Nat) (ys:List T) (ws:List V) (f:Bool) (fp:List Nat) (Y:List Nat) (σ:TS) (σh:List (Option V)) (M:Mem) (h:AH),
   its.drop i=r->i<=its.length->Y=D::X++fp->Frm A h1 h->RelM gl A Y h M->Ql A Y h s its d->h[D]?=some (.lst false ws)->qM A (D::X) h ys ws ->
   (f=true->FPs (D::X) h ys ws fp/\fp.Nodup/\∀a∈fp,h1.length<=a)->jU A Y h σ σh ->
   Sim gl A X h1 (QE gl A X h1.length) (qb d g c e r ys f σ M) (QI s g c' e' D r.length i ws σh h)
 | [],i,ys,ws,f,fp,Y,σ,σh,M,h,hr,hi,hY,fm,R,sr,eD,ry,hf,rs=>by
  have hi':i=its.length:=by
   have:=List.drop_eq_nil_iff.mp hr;omega
  subst hi';have hX:∀a∈X,a∈D::X:=λa z=>List.mem_cons_of_mem _ z;have hXY:∀a∈X,a∈Y:=λa z=>by rw[hY];simp[z]
  have hn:∀a o,a∉D::X->h[a]?=some o->a∉X/\h[a]?=some o:=λa o x y=>⟨λz=>x (hX _ z),y⟩
  refine⟨.ref D,h,?_,fm,R.weak hXY hA,?_,λe=>?_⟩
  ·show (if jk h its.length s then _ else _)=_;rw[if_pos (JJ sr)]
  ·show Rep A X h (.lst ys) _;unfold Rep;exact⟨D,ws,rfl,hDX,eD,qP (λ_ _ e=>e) hn ys ry⟩
  ·obtain⟨p,nd,l⟩:=hf e;refine⟨fp++[D],?_,?_,?_,?_⟩
   ·show FP X h (.lst ys) _ _;unfold FP;exact⟨D,ws,fp,rfl,hDX,eD,zb hn ys p,rfl⟩
   ·rw[we];refine⟨nd,by simp,?_⟩;rintro a ha b hb rfl;simp at hb;exact(jy ys p a ha).1 (by rw[hb];exact List.mem_cons_self ..)
   ·intro a ha;rcases wD.mp ha with z|z
    ·exact l a z
    ·simp at z;omega
   ·refine⟨R.weak (λa z=>?_) λa z=>wE _ (hA a z),New.lst⟩;rw[hY];simp only[wD,List.mem_cons,wQ]at z ⊢
    grind
 |x::r,i,ys,ws,f,fp,Y,σ,σh,M,h,hr,hi,hY,fm,R,sr,eD,ry,hf,rs=>by
  have hXY:∀a∈X,a∈Y:=λa z=>by rw[hY];simp[z]
  have hDY:D∈Y:=by rw[hY];simp
  have hDXY:∀a∈D::X,a∈Y:=λa z=>by rw[hY];exact wE _ z
  have hDA:D∉A:=λz=>hDX (hA D z);have ex:its[i]?=some x:=by
   have:(its.drop i)[0]?=some x:=by rw[hr];rfl
   rwa [wu,Nat.add_zero]at this
  have hi2:i+1<=its.length:=(List.getElem?_eq_some_iff.mp ex).1;have hr2:its.drop (i+1)=r:=by
   rw[<-List.drop_drop,hr];rfl
  obtain⟨w,ext,ey,rx⟩:=ZC R sr ex;have fy:Frm A h (h++ext):=Frm.app A h ext;rw[List.length_cons];unfold qb QI;rw[ey];dsimp only;cases es:zR g x σ with
  |none=>exact Sim.stuck
  |some σ1=>
   obtain⟨σh1,esh,rs1⟩:=jc es rx (R.keepS fy rs);rw[esh];dsimp only;refine Sim.bindW hXY hA (fm.trans fy) (hc _ _ _ _ _ (R.up ext) rs1) ?_;rintro b M2 b' h2 f2 R2 rfl;have k2:Frm A h h2:=fy.trans f2;have eD2:h2[D]?=some (.lst false ws):=(k2.2 D (qN eD) hDA).trans eD;have kN:∀{h':AH},Frm A h h'->∀a o,a∉D::X->h[a]?=some o->a∉D::X/\h'[a]?=some o:=λf' a o x y=>⟨x,(f'.2 a (qN y) λz=>x (List.mem_cons_of_mem _ (hA _ z))).trans y⟩
   cases b with
   |true=>
    simp only[if_true];refine Sim.bindW hXY hA (fm.trans k2) (he _ _ _ _ _ R2 ((R.up ext).keepS f2 rs1)) ?_;intro y M3 w3 h3 f3 R3 q3;have k3:Frm A h h3:=k2.trans f3;have eD3:h3[D]?=some (.lst false ws):=(k3.2 D (qN eD) hDA).trans eD;have lw:ys.length=ws.length:=qC (reps_iff.mp ry);dsimp only;by_cases hl:ys.length<lim/\qY d M3=true
    ·rw[if_pos hl,if_pos ⟨eD3,by rw[<-lw];exact hl.1⟩];have hs:∀(Z:List Nat),D∈Z->∀a o,a∉Z->h3[a]?=some o->a∉Z/\(h3.set D (.lst false (ws++[w3])))[a]?=some o:=λZ hZ a o x y=>⟨x,by rw[wH (by rintro rfl;exact x hZ)];exact y⟩
     have hnD:∀a o,a∉D::X->h[a]?=some o->a∉D::X/\(h3.set D (.lst false (ws++[w3])))[a]?=some o:=λa o x y=>hs _ (List.mem_cons_self ..) a o x (kN k3 a o x y).2;have ry4:qM A (D::X) (h3.set D (.lst false (ws++[w3]))) (ys++[y.1]) (ws++[w3]):=
      reps_iff.mpr (qy (reps_iff.mp (qP (λ_ _ e=>e) hnD ys ry)) ⟨w3,[],rfl,qp (λ_ _ e=>e) (λa o x y=>hs _ (List.mem_cons_self ..) a o x y) _ (qp (λ_ _ e=>e) (λa o x y=>⟨λz=>x (hDXY _ z),y⟩) _ q3.1),rfl⟩)
     obtain⟨fp2,hp2,R3',hlt2⟩:∃fp2:List Nat,(y.2=true->FP Y h3 y.1 w3 fp2/\fp2.Nodup)/\RelM gl A (Y++fp2) h3 M3/\∀a∈fp2,h2.length<=a:=by
      cases hy2:y.2 with
      |true=>
       obtain⟨fp2,a,b,c,d,_⟩:=q3.2 hy2;exact⟨fp2,λ_=>⟨a,b⟩,d,c⟩
      |false=>exact⟨[],(λz=>by cases z),by rw[List.append_nil];exact R3,λa ha=>by simp at ha⟩
     have old:∀{Z:List Nat}(_:∀a∈Y,a∈Z) (a:Nat) o,a∉Y->h2[a]?=some o->a∉Y++fp2:=λ_ a o x y=>by
      rw[wD];rintro(z|z)
      ·exact x z
      ·have:=hlt2 a z;have:=qN y;omega
     have R4:=R3'.setX (wE _ hDY) hDA (.lst false (ws++[w3]));have hnY:∀a o,a∉Y->h[a]?=some o->a∉Y++fp2/\(h3.set D (.lst false (ws++[w3])))[a]?=some o:=λa o x y=>⟨old (λ_ z=>z) a o x (R.keepN k2 a o x y).2,(hs Y hDY a o x (R.keepN k3 a o x y).2).2⟩
     have hn2:∀a o,a∉Y->h2[a]?=some o->a∉Y++fp2/\(h3.set D (.lst false (ws++[w3])))[a]?=some o:=λa o x y=>⟨old (λ_ z=>z) a o x y,(hs Y hDY a o x (R2.keepN f3 a o x y).2).2⟩
     refine Zu hc he hD hDX hA r (i+1) (ys++[y.1]) (ws++[w3]) (f&&y.2) (fp++fp2) (Y++fp2) σ1 σh1 M3 _ hr2 hi2 (by rw[hY,List.append_assoc]) ((fm.trans k3).set (.inr hD) _) R4 ?_ ?_ ry4 ?_ ?_
     ·exact ZB sr hnY R4 hl.2
     ·rw[List.getElem?_set_self (qN eD3)]
     ·intro ef;rw[Bool.and_eq_true]at ef;obtain⟨p1,nd1,l1⟩:=hf ef.1;obtain⟨p2,nd2⟩:=hp2 ef.2;refine⟨C9 (zb hnD ys p1) (ZF (λa o x y=>hs _ (List.mem_cons_self ..) a o x y) _ (ZF (λa o x y=>⟨λz=>x (hDXY _ z),y⟩) _ p2)),?_,?_⟩
      ·rw[we];refine⟨nd1,nd2,?_⟩;rintro a ha b hb rfl;exact(G2 y.1 p2 a hb).1 (by rw[hY];exact wG _ ha)
      ·intro a ha;rcases wD.mp ha with z|z
       ·exact l1 a z
       ·have:=hlt2 a z;have:=(fm.trans k2).1;omega
     ·exact zd (λ_ _ e=>e) hn2 ((R.up ext).keepS f2 rs1)
    ·rw[if_neg hl];exact Sim.stuck
   |false=>
    dsimp only;simp only[Bool.false_eq_true,if_false];by_cases hl:qY d M2=true
    ·rw[if_pos hl,if_pos eD2];exact Zu hc he hD hDX hA r (i+1) ys ws f fp Y σ1 σh1 M2 h2 hr2 hi2 hY (fm.trans k2) R2 (M9 sr (λa o x y=>(R.keepN k2 a o x y).2) R2 hl) eD2 (qP (λ_ _ e=>e) (kN k2) ys ry)
      (λef=>by obtain⟨a,b,c⟩:=hf ef;exact⟨zb (kN k2) ys a,b,c⟩) ((R.up ext).keepS f2 rs1)
    ·rw[if_neg hl];exact Sim.stuck
end
section
variable{gl:List T}{A X:List Nat}{h h':AH}{M M':Mem}
theorem Z9{X':List Nat}{s:Src}{ts:List T}{d:QC}(r:Ql A X h s ts d)(hn:∀a o,a∉X->h[a]?=some o->a∉X'/\h'[a]?=some o)(hc:∀(n:Nat) a o,A[n]?=some a->h[a]?=some o->h'[a]?=some o):Ql A X' h' s ts d:=by
 induction r with
 |list a f vs ts q1 q2 q3=>exact .list a f vs ts (hn _ _ q1 q2).1 (hn _ _ q1 q2).2 (qP (λ_ _ e=>e) hn ts q3)
 |cell n a vs ts q1 q2 q3=>exact .cell n a vs ts q1 (hc n a _ q1 q2) (qP (λ_ _ e=>e) hn ts q3)
 |tupl a vs ts q1 q2 q3=>exact .tupl a vs ts (hn _ _ q1 q2).1 (hn _ _ q1 q2).2 (qP (λ_ _ e=>e) hn ts q3)
 |rng lo n=>exact .rng lo n
 |zip a b ts us d1 d2 _ _ i1 i2=>exact .zip a b ts us d1 d2 i1 i2
theorem L1{n:Nat}{r:PR (TB×Mem)}{rh:RV}(s:Sim gl A X h (QE gl A X n) r rh):Sim gl A X h (λb b' _ _=>b=b') (pB r) (asB rh):=by
 refine Sim.bind s ?_;intro x M1 w h1 f1 R1 q1;obtain⟨t,fr⟩:=x;dsimp only;split
 ·rename_i b;cases zC q1.1;exact⟨_,h1,rfl,Frm.refl A h1,R1,rfl⟩
 ·exact Sim.stuck
theorem JN:∀(xs:List V),T.lfs (xs.map .v)=true
 | []=>rfl
 |x::xs=>by show (T.lf (.v x)&&T.lfs (xs.map .v))=true;rw[JN xs];rfl
theorem K7(lo:Int)(n:Nat):T.lfs (qf lo n)=true:=by
 have e:qf lo n=(jF lo n).map .v:=by unfold qf jF;rw[wa];rfl
 rw[e];exact JN _
theorem jV{A X:List Nat}{h:AH}:∀{xs:List V},xs.all flat=true->qM A X h (xs.map .v) xs
 | [],_=>by show qM A X h [] [];unfold qM;rfl
 |x::xs,f=>by
  rw[List.all_cons,Bool.and_eq_true]at f;show qM A X h (.v x::xs.map .v) _;unfold qM;exact⟨x,xs,rfl,by unfold Rep;exact⟨rfl,f.1⟩,jV f.2⟩
theorem L3{α β:Type}{R:α->β->Prop}{xs:List α}{ys:List β}(k:Nat)(h:jE R xs ys):jE R (xs.eraseIdx k) (ys.eraseIdx k):=by
 rw[wX,wX];exact qy (zK _ h) (jl _ h)
theorem Zt{α β:Type}{R:α->β->Prop}{xs:List α}{ys:List β}(h:jE R xs ys):jE R xs.dropLast ys.dropLast:=by
 rw[wv,wv,<-qC h];exact zK _ h
theorem J1{α β:Type}{R:α->β->Prop}:∀{xs:List α}{ys:List β},jE R xs ys->jE R xs.reverse ys.reverse
 | [],_,h=>by cases h;rfl
 |x::xs,_,⟨v,vs,rfl,r,h⟩=>by
  rw[wq,wq];exact qy (J1 h) ⟨v,[],rfl,r,rfl⟩
theorem Z3(R:RelM gl A X h M){m:Mt}{n p:Nat}{ts:List T}{ws:List V}(ep:A[n]?=some p)(rs:qM A X h ts ws):Sim gl A X h (QE gl A X h.length) (PR.ofO (N9 m n ts M)) (QJ m p ws h):=by
 obtain⟨ts2,vs2,g1,g2,g3⟩:=R.at_ n p ep;have hm:qe h p=some vs2:=by unfold qe;rw[g2]
 have l:=qC (reps_iff.mp g3);cases em:N9 m n ts M with
 |none=>exact Sim.stuck
 |some r=>
  unfold N9 at em;split at em
  ·unfold qM at rs;subst rs;rw[g1]at em;dsimp only[Option.bind_some]at em;obtain⟨y,ey,rfl⟩:=Option.map_eq_some_iff.mp em;obtain⟨w,ew,rw2⟩:=qz (reps_iff.mp g3) ey;show Sim _ _ _ _ _ _ (match qe h p with|some xs=>_|none=>_);rw[hm];dsimp only;rw[<-l,ew];obtain⟨R4,f4⟩:=R.put ep (reps_iff.mpr (Zt (reps_iff.mp g3)));have r:=R.keep f4 rw2;exact⟨w,_,rfl,f4,R4,r,λe=>Frs.of_lf R4 r e⟩
  ·rename_i i;obtain⟨w,rfl,a⟩:=QG rs;cases zC a;rw[g1]at em;dsimp only[Option.bind_some]at em;split at em
   ·rename_i hl;obtain⟨k,ek,em⟩:=Option.bind_eq_some_iff.mp em;obtain⟨y,ey,rfl⟩:=Option.map_eq_some_iff.mp em;obtain⟨w,ew,rw2⟩:=qz (reps_iff.mp g3) ey;show Sim _ _ _ _ _ _ (match qe h p with|some xs=>_|none=>_);rw[hm];dsimp only;rw[<-l,if_pos hl,ek];dsimp only;rw[ew];obtain⟨R4,f4⟩:=R.put ep (reps_iff.mpr (L3 k (reps_iff.mp g3)));have r:=R.keep f4 rw2;exact⟨w,_,rfl,f4,R4,r,λe=>Frs.of_lf R4 r e⟩
   ·cases em
  ·unfold qM at rs;subst rs;rw[g1]at em;cases em;show Sim _ _ _ _ _ _ (match qe h p with|some xs=>_|none=>_);rw[hm];obtain⟨R4,f4⟩:=R.put ep (reps_iff.mpr (J1 (reps_iff.mp g3)));have r:Rep A X (h.set p (.lst false vs2.reverse)) (.v .non) .non:=by unfold Rep;exact⟨rfl,rfl⟩
   exact⟨_,_,rfl,f4,R4,r,λe=>Frs.of_lf R4 r e⟩
  ·unfold qM at rs;subst rs;rw[g1]at em;cases em;show Sim _ _ _ _ _ _ (match qe h p with|some xs=>_|none=>_);rw[hm];obtain⟨R4,f4⟩:=R.put (ts:=[]) (vs:=[]) ep (by unfold qM;rfl);have r:Rep A X (h.set p (.lst false [])) (.v .non) .non:=by unfold Rep;exact⟨rfl,rfl⟩
   exact⟨_,_,rfl,f4,R4,r,λe=>Frs.of_lf R4 r e⟩
  ·rename_i i t;unfold qM at rs;obtain⟨w1,wr,rfl,a1,rs⟩:=rs;obtain⟨w2,rfl,a2⟩:=QG rs;cases zC a1;rw[g1]at em;dsimp only[Option.bind_some]at em;split at em
   ·rename_i hc;cases em;show Sim _ _ _ _ _ _ (match qe h p with|some xs=>_|none=>_);rw[hm];dsimp only;rw[if_pos (by rw[<-l];exact hc)];obtain⟨R4,f4⟩:=R.put ep (reps_iff.mpr (qy (zK i.toNat (reps_iff.mp g3)) (show jE (Rep A X h) (t::ts2.drop i.toNat) (w2::vs2.drop i.toNat) from⟨_,_,rfl,a2,jl i.toNat (reps_iff.mp g3)⟩)));have r:Rep A X (h.set p (.lst false (vs2.take i.toNat++w2::vs2.drop i.toNat))) (.v .non) .non:=by unfold Rep;exact⟨rfl,rfl⟩
    exact⟨_,_,rfl,f4,R4,r,λe=>Frs.of_lf R4 r e⟩
   ·cases em
  ·cases em
theorem w6(R:RelM gl A X h M){t:T}{w:V}{s:List T×QC}(r:Rep A X h t w)(e:L0 M t=some s):∃p sh,w=.ref p/\(match h[p]? with|some (.lst _ _)=>Res.ok (Src.list p,h)|some (.tup _)=>.ok (.tupl p,h)|_=>.stuck)=.ok (sh,h)/\Ql A X h sh s.1 s.2:=by
 cases t with
 |v x=>cases e
 |cell n=>
  unfold Rep at r;obtain⟨a,ea,rfl⟩:=r;obtain⟨ts,vs,e1,e2,e3⟩:=R.at_ n a ea;unfold L0 at e;dsimp only at e;rw[e1]at e;cases e;exact⟨a,_,rfl,by rw[e2],.cell n a vs ts ea e2 e3⟩
 |fz xs=>unfold Rep at r;obtain⟨a,vs,rfl,q,k,z⟩:=r;cases e;exact⟨a,_,rfl,by rw[k],.list a true vs xs q k z⟩
 |lst xs=>unfold Rep at r;obtain⟨a,vs,rfl,q,k,z⟩:=r;cases e;exact⟨a,_,rfl,by rw[k],.list a false vs xs q k z⟩
 |tup xs=>unfold Rep at r;obtain⟨a,vs,rfl,q,k,z⟩:=r;cases e;exact⟨a,_,rfl,by rw[k],.tupl a vs xs q k z⟩
 |ob o=>cases e
theorem P3(R:RelM gl A X h M){t:T}{w:V}{s:List T×QC}(r:Rep A X h t w)(e:W8 M t=some s):∃p vs,w=.ref p/\qQ h p=some vs/\Ql A X h (.list p) s.1 s.2:=by
 cases t with
 |v x=>cases e
 |cell n=>
  unfold Rep at r;obtain⟨a,ea,rfl⟩:=r;obtain⟨ts,vs,e1,e2,e3⟩:=R.at_ n a ea;unfold W8 at e;dsimp only at e;rw[e1]at e;cases e;exact⟨a,_,rfl,qS e2,.cell n a vs ts ea e2 e3⟩
 |fz xs=>unfold Rep at r;obtain⟨a,vs,rfl,q,k,z⟩:=r;cases e;exact⟨a,_,rfl,qS k,.list a true vs xs q k z⟩
 |lst xs=>unfold Rep at r;obtain⟨a,vs,rfl,q,k,z⟩:=r;cases e;exact⟨a,_,rfl,qS k,.list a false vs xs q k z⟩
 |tup xs=>cases e
 |ob o=>cases e
theorem QEs.len{n:Nat}{xs:List TB}{ws:List V}(q:QEs gl A X n xs ws h M):xs.length=ws.length:=by
 have:=qC (reps_iff.mp q.1);simpa using this
end
section
variable{gl:List T}{P:Nat->List T->Mem->PR (TB×Mem)}{F:Nat->List V->AH->RV}
variable (hF:∀f ts ws A X h M,RelM gl A X h M->qM A X h ts ws->Sim gl A X h (QE gl A X h.length) (P f ts M) (F f ws h))
include hF
mutual
theorem qW:∀(e:E) (A X:List Nat) (h:AH) (M:Mem) (σ:TS) (σh:List (Option V)),RelM gl A X h M->jU A X h σ σh->Sim gl A X h (QE gl A X h.length) (pe gl P e σ M) (ev F e σh h)
 | .var i,A,X,h,M,σ,σh,R,rs=>by
  rw[pe,ev];dsimp only;split
  ·rename_i t e;obtain⟨w,ew,r⟩:=D8 rs e;rw[ew];exact A9 R r
  ·exact Sim.stuck
 | .dnew,A,X,h,M,σ,σh,R,rs=>by
  unfold pe ev;have r:Rep A X (h++[O.ob (.dct [])]) (.ob (.dct [])) (.ref h.length):=by
   unfold Rep;exact⟨h.length,rfl,λz=>by have:=R.lt _ z;omega,by simp⟩
  exact⟨_,_,rfl,Frm.app A h _,R.up _,r,λ_=>Frs.ofD R r⟩
 | .cst v,A,X,h,M,σ,σh,R,rs=>by
  rw[pe,ev];dsimp only;split
  ·rename_i e;exact qI R e
  ·exact Sim.stuck
 | .glob g,A,X,h,M,σ,σh,R,rs=>by
  rw[pe,ev];dsimp only;split
  ·rename_i t e;exact A9 R (R.glo g t e)
  ·exact Sim.stuck
 | .bin op a b,A,X,h,M,σ,σh,R,rs=>by
  rw[pe,ev];dsimp only;refine Sim.bind (qW a A X h M σ σh R rs) ?_;intro x M1 v h1 f1 R1 q1;dsimp only;refine Sim.bind (qW b A X h1 M1 σ σh R1 (R.keepS f1 rs)) ?_;intro y M2 w h2 f2 R2 q2;dsimp only;exact Sim.ofO λr er=>(qAN R2 er (R1.keep f2 q1.1) q2.1).le (Nat.le_trans f1.1 f2.1)
 | .neg a,A,X,h,M,σ,σh,R,rs=>by
  rw[pe,ev];dsimp only;refine Sim.bind (qW a A X h M σ σh R rs) ?_;intro x M1 v h1 f1 R1 q1;dsimp only;obtain⟨t,fr⟩:=x;dsimp only;split
  ·cases zC q1.1;exact qI R1 rfl
  ·exact Sim.stuck
 | .cmp op a b,A,X,h,M,σ,σh,R,rs=>by
  rw[pe,ev];dsimp only;refine Sim.bind (qW a A X h M σ σh R rs) ?_;intro x M1 v h1 f1 R1 q1;dsimp only;refine Sim.bind (qW b A X h1 M1 σ σh R1 (R.keepS f1 rs)) ?_;intro y M2 w h2 f2 R2 q2;dsimp only;refine Sim.ofO λr er=>?_;unfold qAx;rw[Jx R2 (R1.keep f2 q1.1) q2.1 er];exact qI R2 rfl
 | .cmp2 o1 o2 a b c,A,X,h,M,σ,σh,R,rs=>by
  rw[pe,ev];dsimp only;refine Sim.bind (qW a A X h M σ σh R rs) ?_;intro x M1 v h1 f1 R1 q1;dsimp only;refine Sim.bind (qW b A X h1 M1 σ σh R1 (R.keepS f1 rs)) ?_;intro y M2 w h2 f2 R2 q2;dsimp only;refine Sim.ofO λr er=>?_;rw[Jx R2 (R1.keep f2 q1.1) q2.1 er];cases r with
  |true=>
   simp only[if_true];refine Sim.bind (qW c A X h2 M2 σ σh R2 (R1.keepS f2 (R.keepS f1 rs))) ?_;intro z M3 u h3 f3 R3 q3;dsimp only;refine Sim.ofO λr er=>?_;unfold qAx;rw[Jx R3 (R2.keep f3 q2.1) q3.1 er];exact qI R3 rfl
  |false=>exact qI R2 rfl
 | .and a b,A,X,h,M,σ,σh,R,rs=>by
  rw[pe,ev];dsimp only;refine Sim.bind (L1 (qW a A X h M σ σh R rs)) ?_;rintro x M1 v h1 f1 R1 rfl;dsimp only;cases x with
  |true=>simp only[if_true];exact(qW b A X h1 M1 σ σh R1 (R.keepS f1 rs)).le f1.1
  |false=>exact qI R1 rfl
 | .or a b,A,X,h,M,σ,σh,R,rs=>by
  rw[pe,ev];dsimp only;refine Sim.bind (L1 (qW a A X h M σ σh R rs)) ?_;rintro x M1 v h1 f1 R1 rfl;dsimp only;cases x with
  |false=>simp only[Bool.false_eq_true,if_false];exact(qW b A X h1 M1 σ σh R1 (R.keepS f1 rs)).le f1.1
  |true=>exact qI R1 rfl
 | .not a,A,X,h,M,σ,σh,R,rs=>by
  rw[pe,ev];dsimp only;refine Sim.bind (L1 (qW a A X h M σ σh R rs)) ?_;rintro x M1 v h1 f1 R1 rfl;dsimp only;exact qI R1 rfl
 | .ite c a b,A,X,h,M,σ,σh,R,rs=>by
  rw[pe,ev];dsimp only;refine Sim.bind (L1 (qW c A X h M σ σh R rs)) ?_;rintro x M1 v h1 f1 R1 rfl;dsimp only;cases x with
  |true=>simp only[if_true];exact(qW a A X h1 M1 σ σh R1 (R.keepS f1 rs)).le f1.1
  |false=>simp only[Bool.false_eq_true,if_false];exact(qW b A X h1 M1 σ σh R1 (R.keepS f1 rs)).le f1.1
 | .call f as,A,X,h,M,σ,σh,R,rs=>by
  rw[pe,ev];dsimp only;refine Sim.bind (jm as A X h M σ σh R rs) ?_;intro x M1 v h1 f1 R1 q1;dsimp only;exact(hF f _ _ A X h1 M1 R1 q1.1).nx.le f1.1
 | .blt f as,A,X,h,M,σ,σh,R,rs=>by
  rw[pe,ev];dsimp only;refine Sim.bind (jm as A X h M σ σh R rs) ?_;intro x M1 v h1 f1 R1 q1;dsimp only;exact Sim.ofO λr er=>(qAM R1 q1.1 er).le f1.1
 | .isi a ts,A,X,h,M,σ,σh,R,rs=>by
  rw[pe,ev];dsimp only;refine Sim.bind (qW a A X h M σ σh R rs) ?_;intro x M1 v h1 f1 R1 q1;dsimp only;refine Sim.ofO λr er=>?_;rw[Z2 R1 q1.1 er];exact qI R1 rfl
 | .idx a b,A,X,h,M,σ,σh,R,rs=>by
  rw[pe,ev];dsimp only;refine Sim.bind (qW a A X h M σ σh R rs) ?_;intro x M1 v h1 f1 R1 q1;dsimp only;refine Sim.bind (qW b A X h1 M1 σ σh R1 (R.keepS f1 rs)) ?_;intro y M2 w h2 f2 R2 q2;dsimp only;refine Sim.ofO λr er=>?_;obtain⟨ty,fy⟩:=y;unfold JF at er;dsimp only at er;split at er
  ·rename_i i;cases zC q2.1;obtain⟨xs,e1,er⟩:=Option.bind_eq_some_iff.mp er;obtain⟨j,e2,er⟩:=Option.bind_eq_some_iff.mp er;obtain⟨t,e3,rfl⟩:=Option.map_eq_some_iff.mp er;obtain⟨p,vs,rfl,k1,k2⟩:=D5 R2 (R1.keep f2 q1.1) e1;obtain⟨u,e4,k3⟩:=qz (reps_iff.mp k2) e3;dsimp only;rw[k1];dsimp only;rw[<-qC (reps_iff.mp k2),e2];dsimp only[Option.bind_some];rw[e4];exact A9 R2 k3
  ·cases er
 | .sl a lo hi,A,X,h,M,σ,σh,R,rs=>by
  rw[pe,ev];dsimp only;refine Sim.bind (qW a A X h M σ σh R rs) ?_;intro x M1 v h1 f1 R1 q1;dsimp only;refine Sim.bind (jm lo A X h1 M1 σ σh R1 (R.keepS f1 rs)) ?_;intro y M2 w h2 f2 R2 q2;dsimp only;refine Sim.bind (jm hi A X h2 M2 σ σh R2 (R1.keepS f2 (R.keepS f1 rs))) ?_;intro z M3 u h3 f3 R3 q3;dsimp only;refine Sim.ofO λxs ex=>Sim.ofO λl el=>Sim.ofO λm em=>?_;rw[B9 (R2.keeps f3 q2.1) el,B9 q3.1 em];have rp:=R2.keep f3 (R1.keep f2 q1.1);refine Sim.ofO λr er=>?_;refine Sim.le ?_ (Nat.le_trans f1.1 (Nat.le_trans f2.1 f3.1));obtain⟨x1,x2⟩:=x;dsimp only at ex er rp ⊢;cases x1 with
  |v x=>cases ex
  |ob o=>cases ex
  |cell n=>cases er;obtain⟨p,vs,f,rfl,k1,k2⟩:=zr R3 rp ex;dsimp only;rw[qS k1];exact K4 R3 (JO k2)
  |fz xs=>cases er;obtain⟨p,vs,f,rfl,k1,k2⟩:=zr R3 rp ex;dsimp only;rw[qS k1];exact K4 R3 (JO k2)
  |lst xs=>cases er;obtain⟨p,vs,f,rfl,k1,k2⟩:=zr R3 rp ex;dsimp only;rw[qS k1];exact K4 R3 (JO k2)
  |tup ts=>
   cases ex;unfold Rep at rp;obtain⟨a,vs,rfl,_,q,kk⟩:=rp;have ln:=qC (reps_iff.mp kk);dsimp only;rw[show qQ h3 a=none by unfold qQ;rw[q],show qU h3 a=some vs by unfold qU;rw[q]];dsimp only;unfold Z7 at er;dsimp only at er;rw[ln]at er;split at er
   ·cases er
   ·rename_i hw;cases er;rw[if_neg hw];exact B4 R3 (JO kk) λe=>Frss.of_lf R3 (JO kk) e
 | .lst as,A,X,h,M,σ,σh,R,rs=>by
  rw[pe,ev];dsimp only;refine Sim.bind (jm as A X h M σ σh R rs) ?_;intro x M1 v h1 f1 R1 q1;dsimp only;rw[<-q1.len];split
  ·exact A6 R1 q1.1 f1.1 q1.2
  ·exact Sim.stuck
 | .tup as,A,X,h,M,σ,σh,R,rs=>by
  rw[pe,ev];dsimp only;refine Sim.bind (jm as A X h M σ σh R rs) ?_;intro x M1 v h1 f1 R1 q1;dsimp only;rw[<-q1.len];split
  ·exact B4 R1 q1.1 q1.2
  ·exact Sim.stuck
 | .comp it src g c e,A,X,h,M,σ,σh,R,rs=>by
  rw[pe,ev];dsimp only;refine Sim.bind (l4 it A X h M σ σh R rs) ?_;intro s M1 sh h1 f1 R1 q1;dsimp only;have hn:∀a o,a∉X->h1[a]?=some o->a∉h1.length::X/\(h1++[O.lst false []])[a]?=some o:=λa o x y=>⟨by
   rw[List.mem_cons];rintro(z|z)
   ·have:=qN y;omega
   ·exact x z,by rw[List.getElem?_append_left (qN y)];exact y⟩
  have sr:Ql A (h1.length::X) (h1++[O.lst false []]) sh s.1 s.2:=Z9 q1 hn λn a o _ y=>by rw[List.getElem?_append_left (qN y)];exact y
  rw[F8 sr];dsimp only;refine(Zu (its:=s.1) (λX h M σ σh R rs=>qBc c A X h M σ σh R rs) (λX h M σ σh R rs=>qW e A X h M σ σh R rs) (Nat.le_refl h1.length) (λz=>Nat.lt_irrefl _ (R1.lt _ z)) R1.sub s.1 0 [] [] true [] (h1.length::X) _ _ M1 _ rfl (Nat.zero_le _) (by simp) (Frm.app A h1 _) (R1.addX λa=>List.mem_cons) sr (by simp) (by unfold qM;rfl) ?_ ?_).le f1.1
  ·exact λ_=>⟨by unfold FPs;exact⟨rfl,rfl⟩,vE,λa ha=>by simp at ha⟩
  ·exact zd (λ_ _ e=>e) hn (jq (R.keepS f1 rs) src)
 | .app a b,A,X,h,M,σ,σh,R,rs=>by
  rw[pe,ev];dsimp only;refine Sim.bind (qW a A X h M σ σh R rs) ?_;intro x M1 v h1 f1 R1 q1;dsimp only;obtain⟨t,fr⟩:=x;dsimp only;split
  ·rename_i n;have q:=q1.1;unfold Rep at q;obtain⟨p,ep,rfl⟩:=q;obtain⟨ts,vs,e1,e2,e3⟩:=R1.at_ n p ep;dsimp only;rw[qS e2];dsimp only;refine Sim.bind (qW b A X h1 M1 σ σh R1 (R.keepS f1 rs)) ?_;intro y M2 w h2 f2 R2 q2;dsimp only;obtain⟨ts2,vs2,g1,g2,g3⟩:=R2.at_ n p ep;rw[g1,show qe h2 p=some vs2 by unfold qe;rw[g2]];dsimp only;rw[<-qC (reps_iff.mp g3)];split
   ·have r1:jE (Rep A X h2) [y.1] [w]:=⟨w,[],rfl,q2.1,rfl⟩
    obtain⟨R4,f4⟩:=R2.put ep (reps_iff.mpr (qy (reps_iff.mp g3) r1));have r:Rep A X (h2.set p (.lst false (vs2++[w]))) (.v .non) .non:=by unfold Rep;exact⟨rfl,rfl⟩
    exact⟨.non,_,rfl,f4,R4,r,λ_=>Frs.of_lf R4 r rfl⟩
   ·exact Sim.stuck
  ·exact Sim.stuck
 | .lrng a,A,X,h,M,σ,σh,R,rs=>by
  rw[pe,ev];dsimp only;refine Sim.bind (qW a A X h M σ σh R rs) ?_;intro x M1 v h1 f1 R1 q1;dsimp only;obtain⟨t,fr⟩:=x;dsimp only;split
  ·rename_i j;cases zC q1.1;dsimp only;split
   ·have r:qM A X h1 (qf 0 j.toNat) (jF 0 j.toNat):=by
     have e:qf 0 j.toNat=(jF 0 j.toNat).map .v:=by unfold qf jF;rw[wa];rfl
     rw[e];exact jV (by simp[jF,flat])
    exact(A6 (f:=true) R1 r (Nat.le_refl _) λ_=>Frss.of_lf R1 r (K7 0 _)).le f1.1
   ·exact Sim.stuck
  ·exact Sim.stuck
 | .meth m a as,A,X,h,M,σ,σh,R,rs=>by
  rw[pe,ev];dsimp only;refine Sim.bind (qW a A X h M σ σh R rs) ?_;intro x M1 v h1 f1 R1 q1;dsimp only;obtain⟨t,fr⟩:=x;dsimp only;split
  ·rename_i n;have q:=q1.1;unfold Rep at q;obtain⟨p,ep,rfl⟩:=q;obtain⟨ts,vs,e1,e2,e3⟩:=R1.at_ n p ep;dsimp only;rw[qS e2];dsimp only;refine Sim.bind (jm as A X h1 M1 σ σh R1 (R.keepS f1 rs)) ?_;intro y M2 w h2 f2 R2 q2;dsimp only;exact(Z3 R2 ep q2.1).le (Nat.le_trans f1.1 f2.1)
  ·exact Sim.stuck
theorem jm:∀(e:Es) (A X:List Nat) (h:AH) (M:Mem) (σ:TS) (σh:List (Option V)),RelM gl A X h M->jU A X h σ σh->Sim gl A X h (QEs gl A X h.length) (pes gl P e σ M) (evs F e σh h)
 | .nil,A,X,h,M,σ,σh,R,rs=>by
  rw[pes,evs];have r:qM A X h [] []:=by unfold qM;rfl
  exact⟨[],h,rfl,Frm.refl A h,R,r,λ_=>Frss.of_lf R r rfl⟩
 | .cons a as,A,X,h,M,σ,σh,R,rs=>by
  rw[pes,evs];dsimp only;refine Sim.bind (qW a A X h M σ σh R rs) ?_;intro x M1 v h1 f1 R1 q1;dsimp only;obtain⟨fp1,hp1,R1',hlt1⟩:∃fp1:List Nat,(x.2=true->FP X h1 x.1 v fp1/\fp1.Nodup)/\RelM gl A (X++fp1) h1 M1/\∀a∈fp1,h.length<=a:=by
   cases hx2:x.2 with
   |true=>
    obtain⟨fp2,a,b,c,d,_⟩:=q1.2 hx2;exact⟨fp2,λ_=>⟨a,b⟩,d,c⟩
   |false=>exact⟨[],(λz=>by cases z),by rw[List.append_nil];exact R1,λa ha=>by simp at ha⟩
  have hX:∀a∈X,a∈X++fp1:=λa z=>wE _ z;have hn:∀a o,a∉X->h[a]?=some o->a∉X++fp1/\h1[a]?=some o:=λa o x y=>⟨by
   rw[wD];rintro(z|z)
   ·exact x z
   ·have:=hlt1 a z;have:=qN y;omega,(R.keepN f1 a o x y).2⟩
  refine Sim.bindW hX R.sub (Frm.refl A h1) (jm as A (X++fp1) h1 M1 σ σh R1' (zd (λ_ _ e=>e) hn rs)) ?_;intro y M2 w h2 f2 R2 q2;dsimp only;refine⟨_,h2,rfl,f2,R2.weak hX R.sub,?_,λe=>?_⟩
  ·show qM A X h2 (x.1::y.map (·.1)) (v::w);unfold qM;exact⟨v,w,rfl,R1.keep f2 q1.1,qP (λ_ _ e=>e) (λa o x y=>⟨λz=>x (hX _ z),y⟩) _ q2.1⟩
  ·rw[List.all_cons,Bool.and_eq_true]at e;obtain⟨a1,b1⟩:=hp1 e.1;obtain⟨fp2,a2,b2,c2,d2⟩:=q2.2 e.2;refine⟨fp1++fp2,?_,?_,?_,by rw[<-List.append_assoc];exact d2⟩
   ·show FPs X h2 (x.1::y.map (·.1)) (v::w) _;unfold FPs;exact⟨v,w,fp1,fp2,rfl,ZF (R1.keepN f2) _ a1,zb (λa o x y=>⟨λz=>x (hX _ z),y⟩) _ a2,rfl⟩
   ·rw[we];refine⟨b1,b2,?_⟩;rintro a ha b hb rfl;exact(jy _ a2 a hb).1 (wG _ ha)
   ·intro a ha;rcases wD.mp ha with z|z
    ·exact hlt1 a z
    ·exact Nat.le_trans f1.1 (c2 a z)
theorem qBc:∀(e:Es) (A X:List Nat) (h:AH) (M:Mem) (σ:TS) (σh:List (Option V)),RelM gl A X h M->jU A X h σ σh->Sim gl A X h (λb b' _ _=>b=b') (pec gl P e σ M) (evc F e σh h)
 | .nil,A,X,h,M,σ,σh,R,rs=>by
  rw[pec,evc];exact⟨true,h,rfl,Frm.refl A h,R,rfl⟩
 | .cons a as,A,X,h,M,σ,σh,R,rs=>by
  rw[pec,evc];exact L1 (qW a A X h M σ σh R rs)
theorem l4:∀(e:Itr) (A X:List Nat) (h:AH) (M:Mem) (σ:TS) (σh:List (Option V)),RelM gl A X h M->jU A X h σ σh->Sim gl A X h (λs sh h' _=>Ql A X h' sh s.1 s.2) (pei gl P e σ M) (evi F e σh h)
 | .list a,A,X,h,M,σ,σh,R,rs=>by
  rw[pei,evi];dsimp only;refine Sim.bind (qW a A X h M σ σh R rs) ?_;intro x M1 v h1 f1 R1 q1;dsimp only;refine Sim.ofO λs es=>?_;obtain⟨p,sh,rfl,e1,e2⟩:=w6 R1 q1.1 es;exact⟨sh,h1,e1,Frm.refl A h1,R1,e2⟩
 | .rng1 a,A,X,h,M,σ,σh,R,rs=>by
  rw[pei,evi];dsimp only;refine Sim.bind (qW a A X h M σ σh R rs) ?_;intro x M1 v h1 f1 R1 q1;dsimp only;obtain⟨t,fr⟩:=x;dsimp only;split
  ·cases zC q1.1;dsimp only;split
   ·exact⟨_,h1,rfl,Frm.refl A h1,R1,.rng 0 _⟩
   ·exact Sim.stuck
  ·exact Sim.stuck
 | .rng2 a b,A,X,h,M,σ,σh,R,rs=>by
  rw[pei,evi];dsimp only;refine Sim.bind (qW a A X h M σ σh R rs) ?_;intro x M1 v h1 f1 R1 q1;dsimp only;refine Sim.bind (qW b A X h1 M1 σ σh R1 (R.keepS f1 rs)) ?_;intro y M2 w h2 f2 R2 q2;dsimp only;obtain⟨t,fr⟩:=x;obtain⟨u,fu⟩:=y;dsimp only;split
  ·cases zC q1.1;cases zC q2.1;dsimp only;split
   ·exact⟨_,h2,rfl,Frm.refl A h2,R2,.rng _ _⟩
   ·exact Sim.stuck
  ·exact Sim.stuck
 | .zip a b,A,X,h,M,σ,σh,R,rs=>by
  rw[pei,evi];dsimp only;refine Sim.bind (qW a A X h M σ σh R rs) ?_;intro x M1 v h1 f1 R1 q1;dsimp only;refine Sim.bind (qW b A X h1 M1 σ σh R1 (R.keepS f1 rs)) ?_;intro y M2 w h2 f2 R2 q2;dsimp only;refine Sim.ofO λs es=>Sim.ofO λt et=>?_;obtain⟨p,vs,rfl,e1,e2⟩:=P3 R2 (R1.keep f2 q1.1) es;obtain⟨q,us,rfl,e3,e4⟩:=P3 R2 q2.1 et;dsimp only;rw[e1,e3];exact⟨_,h2,rfl,Frm.refl A h2,R2,.zip p q _ _ _ _ e2 e4⟩
end
end
mutual
theorem O0{X Af Xf:List Nat}{h:AH}(hX:∀a o,(∀vs,o≠O.lst false vs)->h[a]?=some o->a∉X->a∉Xf):∀(t:T) (n:Nat){w:V}{fp:List Nat},FP X h t w fp->(∀(k:Nat) a,fp[k]?=some a->Af[n+k]?=some a) ->
  (thaw n t).2.length=fp.length/\Rep Af Xf h (thaw n t).1 w/\∀(k:Nat) ts',(thaw n t).2[k]?=some ts'->∃a vs,fp[k]?=some a/\h[a]?=some (.lst false vs)/\qM Af Xf h ts' vs
 | .v x,n,w,fp,p,ha=>by unfold FP at p;obtain⟨p1,rfl⟩:=p;rw[show thaw n (.v x)=(.v x,[]) by simp[thaw]];exact⟨rfl,by unfold Rep;exact p1,λk ts' e=>by simp at e⟩
 | .cell _,n,w,fp,p,ha=>by unfold FP at p;exact p.elim
 | .ob o,n,w,fp,p,ha=>by unfold FP at p;obtain⟨⟨a,rfl,q1,q2⟩,rfl⟩:=p;rw[show thaw n (.ob o)=(.ob o,[]) by simp[thaw]];exact⟨rfl,by unfold Rep;exact⟨a,rfl,hX a _ (by intro _ z;cases z) q2 q1,q2⟩,λk ts' e=>by simp at e⟩
 | .fz _,n,w,fp,p,ha=>by unfold FP at p;exact p.elim
 | .lst ts,n,w,fp,p,ha=>by
  unfold FP at p;obtain⟨a,vs,f,rfl,q1,q2,q3,rfl⟩:=p;obtain⟨l,r,c⟩:=Zq hX ts n q3 (λk a e=>ha k a (by rw[List.getElem?_append_left (List.getElem?_eq_some_iff.mp e).1];exact e));rw[thaw];refine⟨by simp[l],?_,λk ts' e=>?_⟩
  ·show Rep Af Xf h (.cell _) _;unfold Rep;refine⟨a,ha _ a ?_,rfl⟩;rw[l,List.getElem?_append_right (Nat.le_refl _),Nat.sub_self];rfl
  ·dsimp only at e;by_cases hk:k<f.length
   ·rw[List.getElem?_append_left (by rw[l];exact hk)]at e;obtain⟨b,us,e1,e2,e3⟩:=c k ts' e;exact⟨b,us,by rw[List.getElem?_append_left hk];exact e1,e2,e3⟩
   ·rw[List.getElem?_append_right (by rw[l];omega),l]at e;have hk2:k-f.length=0:=by
     have:=(List.getElem?_eq_some_iff.mp e).1;simp at this;omega
    rw[hk2]at e;simp at e;subst e;exact⟨a,vs,by rw[List.getElem?_append_right (by omega),hk2];rfl,q2,r⟩
 | .tup ts,n,w,fp,p,ha=>by
  unfold FP at p;obtain⟨a,vs,rfl,q1,q2,q3⟩:=p;obtain⟨l,r,c⟩:=Zq hX ts n q3 ha;rw[thaw];refine⟨l,?_,c⟩;show Rep Af Xf h (.tup _) _;unfold Rep;exact⟨a,vs,rfl,hX a _ (by intro _ z;cases z) q2 q1,q2,r⟩
theorem Zq{X Af Xf:List Nat}{h:AH}(hX:∀a o,(∀vs,o≠O.lst false vs)->h[a]?=some o->a∉X->a∉Xf):∀(ts:List T) (n:Nat){ws:List V}{fp:List Nat},FPs X h ts ws fp->(∀(k:Nat) a,fp[k]?=some a->Af[n+k]?=some a) ->
  (jb n ts).2.length=fp.length/\qM Af Xf h (jb n ts).1 ws/\∀(k:Nat) ts',(jb n ts).2[k]?=some ts'->∃a vs,fp[k]?=some a/\h[a]?=some (.lst false vs)/\qM Af Xf h ts' vs
 | [],n,ws,fp,p,ha=>by unfold FPs at p;obtain⟨rfl,rfl⟩:=p;rw[jb];exact⟨rfl,by unfold qM;rfl,λk ts' e=>by simp at e⟩
 |t::ts,n,ws,fp,p,ha=>by
  unfold FPs at p;obtain⟨v,vs,f1,f2,rfl,q1,q2,rfl⟩:=p;obtain⟨l1,r1,c1⟩:=O0 hX t n q1 (λk a e=>ha k a (by rw[List.getElem?_append_left (List.getElem?_eq_some_iff.mp e).1];exact e));obtain⟨l2,r2,c2⟩:=Zq hX ts (n+(thaw n t).2.length) q2 (λk a e=>by
   have:=ha (f1.length+k) a (by rw[List.getElem?_append_right (by omega),wI];exact e);rw[l1,Nat.add_assoc];exact this)
  rw[jb];refine⟨by dsimp only;rw[List.length_append,List.length_append,l2,l1],?_,λk ts' e=>?_⟩
  ·show qM Af Xf h (_::_) _;unfold qM;exact⟨v,vs,rfl,r1,r2⟩
  ·dsimp only at e;by_cases hk:k<f1.length
   ·rw[List.getElem?_append_left (by rw[l1];exact hk)]at e;obtain⟨b,us,e1,e2,e3⟩:=c1 k ts' e;exact⟨b,us,by rw[List.getElem?_append_left hk];exact e1,e2,e3⟩
   ·rw[List.getElem?_append_right (by rw[l1];omega)]at e;obtain⟨b,us,e1,e2,e3⟩:=c2 _ ts' e;rw[l1]at e1;exact⟨b,us,by rw[List.getElem?_append_right (by omega)];exact e1,e2,e3⟩
end
theorem RelM.thaw{gl:List T}{A X fp:List Nat}{h:AH}{M:Mem}{t:T}{w:V}(R:RelM gl A (X++fp) h M)(hA:∀a∈A,a∈X)(p:FP X h t w fp)(nd:fp.Nodup):
  RelM gl (A++fp) (X++fp) h (M++(PI.thaw M.length t).2)/\Rep (A++fp) (X++fp) h (PI.thaw M.length t).1 w:=by
 have hX:∀a o,(∀vs,o≠O.lst false vs)->h[a]?=some o->a∉X->a∉X++fp:=λa o hno e x=>by
  rw[wD];rintro(z|z)
  ·exact x z
  ·obtain⟨_,us,e2⟩:=G2 t p a z;rw[e]at e2;cases e2;exact hno _ rfl
 obtain⟨l,r,c⟩:=O0 (Af:=A++fp) hX t M.length p (λk a e=>by rw[<-R.len,List.getElem?_append_right (by omega),wI];exact e);refine⟨⟨by simp[R.len,l],?_,?_,R.lt,λn a e=>?_,λg t e=>?_⟩,r⟩
 ·rw[we];exact⟨R.nd,nd,by rintro a ha b hb rfl;exact(G2 t p a hb).1 (hA a ha)⟩
 ·intro a ha;rcases wD.mp ha with z|z
  ·exact wE _ (hA a z)
  ·exact wG _ z
 ·by_cases hn:n<A.length
  ·rw[List.getElem?_append_left hn]at e;obtain⟨ts,vs,e1,e2,e3⟩:=R.at_ n a e;exact⟨ts,vs,by rw[List.getElem?_append_left (by rw[<-R.len];exact hn)];exact e1,e2,qP (λk b eb=>by rw[List.getElem?_append_left (List.getElem?_eq_some_iff.mp eb).1];exact eb) (λa o x y=>⟨x,y⟩) ts e3⟩
  ·rw[List.getElem?_append_right (by omega)]at e;have hk:n-A.length<(PI.thaw M.length t).2.length:=by rw[l];exact(List.getElem?_eq_some_iff.mp e).1
   obtain⟨b,us,e1,e2,e3⟩:=c (n-A.length) _ (wA hk);rw[e]at e1;cases e1;have hnm:n-M.length=n-A.length:=by rw[R.len]
   exact⟨_,us,by rw[List.getElem?_append_right (by rw[<-R.len];omega),hnm];exact wA hk,e2,e3⟩
 ·exact qp (λk b eb=>by rw[List.getElem?_append_left (List.getElem?_eq_some_iff.mp eb).1];exact eb) (λa o x y=>⟨x,y⟩) t (R.glo g t e)
theorem Qf{A X:List Nat}{h:AH}(n:Nat):∀{ts:List T}{ws:List V},qM A X h ts ws->jU A X h (ts.map some++List.replicate n none) (ws.map some++List.replicate n none)
 | [],ws,r=>by
  unfold qM at r;subst r;show jU A X h (List.replicate n none) (List.replicate n none)
  induction n with
  |zero=>rfl
  |succ n ih=>exact⟨none,_,rfl,trivial,ih⟩
 |t::ts,ws,r=>by
  unfold qM at r;obtain⟨v,vs,rfl,a,b⟩:=r;exact⟨some v,_,rfl,a,Qf n b⟩
def RelO(gl:List T)(A X:List Nat)(n:Nat)(h:AH)(M:Mem):PO->Out->Prop
 | .nx σ,.nx σh=>jU A X h σ σh
 | .bk σ,.bk σh=>jU A X h σ σh
 | .ct σ,.ct σh=>jU A X h σ σh
 | .rt t,.rt w=>QE gl A X n t w h M
 |_,_=>False
theorem RelO.le{gl:List T}{A X:List Nat}{n m:Nat}{h:AH}{M:Mem}{o:PO}{oh:Out}(r:RelO gl A X n h M o oh)(l:m<=n):RelO gl A X m h M o oh:=by
 cases o<;>cases oh<;>first|exact r|exact QE.le r l
def SimS(gl:List T)(A X:List Nat)(h:AH):RSt->RS->Prop
 | .ok (o,M'),r=>∃oh h' B,r=.ok (oh,h')/\Frm A h h'/\(∀b∈B,h.length<=b)/\RelM gl (A++B) (X++B) h' M'/\RelO gl (A++B) (X++B) h.length h' M' o oh
 | .exc c M',r=>∃h' B,r=.exc c h'/\Frm A h h'/\(∀b∈B,h.length<=b)/\RelM gl (A++B) (X++B) h' M'
 | .stuck,_=>True
theorem SimS.stuck{gl:List T}{A X:List Nat}{h:AH}{r:RS}:SimS gl A X h .stuck r:=trivial
theorem SimS.mk{gl:List T}{A X:List Nat}{h:AH}{M:Mem}{o:PO}{oh:Out}(R:RelM gl A X h M)(ro:RelO gl A X h.length h M o oh):SimS gl A X h (.ok (o,M)) (.ok (oh,h)):=
 ⟨oh,h,[],rfl,Frm.refl A h,λb hb=>by simp at hb,by simpa using R,by simpa using ro⟩
theorem SimS.pre{gl:List T}{A X:List Nat}{h h1:AH}{r:RSt}{rh:RS}(s:SimS gl A X h1 r rh)(f:Frm A h h1):SimS gl A X h r rh:=by
 cases r with
 |ok p=>
  obtain⟨o,M'⟩:=p;obtain⟨oh,h',B,e,f1,hB,R,ro⟩:=s;exact⟨oh,h',B,e,f.trans f1,λb hb=>Nat.le_trans f.1 (hB b hb),R,ro.le f.1⟩
 |exc c M'=>
  obtain⟨h',B,e,f1,hB,R⟩:=s;exact⟨h',B,e,f.trans f1,λb hb=>Nat.le_trans f.1 (hB b hb),R⟩
 |stuck=>trivial
theorem Sim.bindS{α β:Type}{gl:List T}{A X:List Nat}{h:AH}{Q:α->β->AH->Mem->Prop}{r:PR (α×Mem)}{rh:Res (β×AH)}{f:α×Mem->RSt}{g:β×AH->RS}
  (s:Sim gl A X h Q r rh) (k:∀x M' y h',Frm A h h'->RelM gl A X h' M'->Q x y h' M'->SimS gl A X h' (f (x,M')) (g (y,h'))):SimS gl A X h (r.bind f) (rh.bind g):=by
 cases r with
 |ok p=>
  obtain⟨x,M'⟩:=p;obtain⟨y,h',rfl,f1,R1,q⟩:=s;exact(k x M' y h' f1 R1 q).pre f1
 |exc c M'=>
  obtain⟨h',rfl,f1,R1⟩:=s;exact⟨h',[],rfl,f1,λb hb=>by simp at hb,by simpa using R1⟩
 |stuck=>trivial
theorem SimS.bind{gl:List T}{A X:List Nat}{h:AH}{r:RSt}{rh:RS}{f:PO×Mem->RSt}{g:Out×AH->RS}
  (s:SimS gl A X h r rh) (k:∀o M' oh h' B,Frm A h h'->(∀b∈B,h.length<=b)->RelM gl (A++B) (X++B) h' M'->RelO gl (A++B) (X++B) h.length h' M' o oh->SimS gl (A++B) (X++B) h' (f (o,M')) (g (oh,h'))\/(f (o,M')=.ok (o,M')/\g (oh,h')=.ok (oh,h'))):SimS gl A X h (r.bind f) (rh.bind g):=by
 cases r with
 |ok p=>
  obtain⟨o,M'⟩:=p;obtain⟨oh,h',B,rfl,f1,hB,R,ro⟩:=s;rw[PR.bind_ok,Res.bind_ok];rcases k o M' oh h' B f1 hB R ro with s2|⟨e1,e2⟩
  ·revert s2;generalize f (o,M')=r2;generalize g (oh,h')=rh2;intro s2;cases r2 with
   |ok p2=>
    obtain⟨o2,M2⟩:=p2;obtain⟨oh2,h2,B2,rfl,f2,hB2,R2,ro2⟩:=s2;rw[List.append_assoc,List.append_assoc]at R2 ro2;exact⟨oh2,h2,B++B2,rfl,f1.trans2 hB f2,λb hb=>by
     rcases wD.mp hb with z|z
     ·exact hB b z
     ·exact Nat.le_trans f1.1 (hB2 b z),R2,ro2.le f1.1⟩
   |exc c M2=>
    obtain⟨h2,B2,rfl,f2,hB2,R2⟩:=s2;rw[List.append_assoc,List.append_assoc]at R2;exact⟨h2,B++B2,rfl,f1.trans2 hB f2,λb hb=>by
     rcases wD.mp hb with z|z
     ·exact hB b z
     ·exact Nat.le_trans f1.1 (hB2 b z),R2⟩
   |stuck=>trivial
  ·rw[e1,e2];exact⟨oh,h',B,rfl,f1,hB,R,ro⟩
 |exc c M'=>
  obtain⟨h',B,rfl,f1,hB,R⟩:=s;exact⟨h',B,rfl,f1,hB,R⟩
 |stuck=>trivial
theorem QV{A X B:List Nat}{h h':AH}(hs:∀a∈A,a∈X)(f:Frm A h h')(hB:∀b∈B,h.length<=b):∀a o,a∉X->h[a]?=some o->a∉X++B/\h'[a]?=some o:=λa o x y=>⟨by
 rw[wD];rintro(z|z)
 ·exact x z
 ·have:=hB a z;have:=qN y;omega,(f.2 a (qN y) λz=>x (hs _ z)).trans y⟩
theorem zT{A B:List Nat}:∀(n:Nat) a,A[n]?=some a->(A++B)[n]?=some a:=λn a e=>by rw[List.getElem?_append_left (List.getElem?_eq_some_iff.mp e).1];exact e
theorem P9{gl:List T}{s:Src}{its:List T}{d:QC}{g:Tg}{b:TS->Mem->RSt}{b':List (Option V)->AH->RS}
  (hb:∀A X h M σ σh,RelM gl A X h M->jU A X h σ σh->SimS gl A X h (b σ M) (b' σh h)):∀(r:List T) (i:Nat) (σ:TS) (σh:List (Option V)) (M:Mem) (h:AH) (A X:List Nat),
   its.drop i=r->i<=its.length->RelM gl A X h M->Ql A X h s its d->jU A X h σ σh->SimS gl A X h (zf d g b r σ M) (G8 s g b' r.length i σh h)
 | [],i,σ,σh,M,h,A,X,hr,hi,R,sr,rs=>by
  have hi':i=its.length:=by
   have:=List.drop_eq_nil_iff.mp hr;omega
  subst hi';show SimS gl A X h (.ok (.nx σ,M)) (if jk h its.length s then _ else _);rw[if_pos (JJ sr)];exact SimS.mk R rs
 |x::r,i,σ,σh,M,h,A,X,hr,hi,R,sr,rs=>by
  have ex:its[i]?=some x:=by
   have:(its.drop i)[0]?=some x:=by rw[hr];rfl
   rwa [wu,Nat.add_zero]at this
  have hi2:i+1<=its.length:=(List.getElem?_eq_some_iff.mp ex).1;have hr2:its.drop (i+1)=r:=by
   rw[<-List.drop_drop,hr];rfl
  obtain⟨w,ext,ey,rx⟩:=ZC R sr ex;have fy:Frm A h (h++ext):=Frm.app A h ext;rw[List.length_cons];unfold zf G8;rw[ey];dsimp only;cases es:zR g x σ with
  |none=>exact SimS.stuck
  |some σ1=>
   obtain⟨σh1,esh,rs1⟩:=jc es rx (R.keepS fy rs);rw[esh];dsimp only;refine SimS.bind ((hb A X _ M σ1 σh1 (R.up ext) rs1).pre fy) ?_;intro o M2 oh h2 B f2 hB R2 ro;have nxt:∀σ2 σh2,jU (A++B) (X++B) h2 σ2 σh2->SimS gl (A++B) (X++B) h2 (if qY d M2=true then zf d g b r σ2 M2 else .stuck) (G8 s g b' r.length (i+1) σh2 h2):=λσ2 σh2 rs2=>by
    split
    ·rename_i hd;exact P9 hb r (i+1) σ2 σh2 M2 h2 _ _ hr2 hi2 R2 (ZB sr (QV R.sub f2 hB) R2 hd zT) rs2
    ·exact SimS.stuck
   cases o with
   |nx σ2=>cases oh<;>first|exact .inl (nxt _ _ ro)|exact ro.elim
   |ct σ2=>cases oh<;>first|exact .inl (nxt _ _ ro)|exact ro.elim
   |bk σ2=>cases oh<;>first|exact .inl (SimS.mk R2 ro)|exact ro.elim
   |rt t=>cases oh<;>first|exact .inr ⟨rfl,rfl⟩|exact ro.elim
section
variable{gl:List T}{P:Nat->List T->Mem->PR (TB×Mem)}{F:Nat->List V->AH->RV}(C:List Nat)
variable (hF:∀f ts ws A X h M,RelM gl A X h M->qM A X h ts ws->Sim gl A X h (QE gl A X h.length) (P f ts M) (F f ws h))
include hF
omit hF in
theorem Res.bind_assoc{α β γ:Type}(r:Res α)(f:α->Res β)(g:β->Res γ):(r.bind f).bind g=r.bind λa=>(f a).bind g:=by cases r<;>rfl
omit hF in
def qFo(gl:List T)(A X:List Nat)(h:AH):PR (TB×Mem)->RV->Prop
 | .ok ((.lst ts,_),M1),r=>∃h1 vs,r=.ok (.ref h1.length,h1++[.lst false vs])/\Frm A h h1/\RelM gl A X h1 M1/\qM A X h1 ts vs
 |_,_=>True
omit hF in
theorem RelM.cellN{gl:List T}{A X:List Nat}{h:AH}{M:Mem}{ts:List T}{vs:List V}(R:RelM gl A X h M)(r:qM A X h ts vs):RelM gl (A++[h.length]) (X++[h.length]) (h++[.lst false vs]) (M++[ts]):=by
 have hn:∀a o,a∉X->h[a]?=some o->a∉X++[h.length]/\(h++[O.lst false vs])[a]?=some o:=QV R.sub (Frm.app A h _) (λb hb=>by simp at hb;omega);refine⟨by simp[R.len],?_,λa ha=>?_,λa ha=>?_,λn a e=>?_,λg t e=>qp zT hn t (R.glo g t e)⟩
 ·rw[we];refine⟨R.nd,by simp,λa ha b hb=>?_⟩;have:=R.lt a (R.sub a ha);simp at hb;omega
 ·rcases wD.mp ha with z|z
  ·exact wE _ (R.sub a z)
  ·exact wG _ z
 ·rcases wD.mp ha with z|z
  ·have:=R.lt a z;simp;omega
  ·simp at z;simp[z]
 ·by_cases hlt:n<A.length
  ·rw[List.getElem?_append_left hlt]at e;obtain⟨us,ws,e1,e2,e3⟩:=R.at_ n a e;exact⟨us,ws,by rw[List.getElem?_append_left (by rw[<-R.len];exact hlt)];exact e1,by rw[List.getElem?_append_left (qN e2)];exact e2,qP zT hn us e3⟩
  ·have hl:=(List.getElem?_eq_some_iff.mp e).1;have hnn:n=A.length:=by simp at hl;omega
   subst hnn;simp at e;subst e;exact⟨ts,vs,by rw[R.len];simp,by simp,qP zT hn ts r⟩
omit hF in
theorem Q9{e:E}(h:qB4 e=true):(∃as,e=.lst as)\/∃a b,e=.bin .add a b:=by
 unfold qB4 at h;split at h
 ·exact .inr ⟨_,_,rfl⟩
 ·exact .inl ⟨_,rfl⟩
 ·cases h
theorem qAG(e:E)(he:qB4 e=true)(A X:List Nat)(h:AH)(M:Mem)(σ:TS)(σh:List (Option V))(R:RelM gl A X h M)(rs:jU A X h σ σh):qFo gl A X h (pe gl P e σ M) (ev F e σh h):=by
 rcases Q9 he with⟨as,rfl⟩|⟨a,b,rfl⟩
 ·rw[pe,ev];dsimp only;have s1:=jm hF as A X h M σ σh R rs;revert s1;generalize pes gl P as σ M=r;generalize evs F as σh h=rh;intro s1;cases r with
  |stuck=>trivial
  |exc c M'=>trivial
  |ok p=>
   obtain⟨x,M1⟩:=p;obtain⟨w,h1,rfl,f1,R1,q⟩:=s1;rw[PR.bind_ok,Res.bind_ok];dsimp only;rw[<-q.len];split
   ·exact⟨h1,w,rfl,f1,R1,q.1⟩
   ·trivial
 ·rw[pe,ev];dsimp only;have s1:=qW hF a A X h M σ σh R rs;revert s1;generalize pe gl P a σ M=r;generalize ev F a σh h=rh;intro s1;cases r with
  |stuck=>trivial
  |exc c M'=>trivial
  |ok p=>
   obtain⟨x,M1⟩:=p;obtain⟨v,h1,rfl,f1,R1,q1⟩:=s1;rw[PR.bind_ok,Res.bind_ok];dsimp only;have s2:=qW hF b A X h1 M1 σ σh R1 (R.keepS f1 rs);revert s2;generalize pe gl P b σ M1=r;generalize ev F b σh h1=rh;intro s2;cases r with
   |stuck=>trivial
   |exc c M'=>trivial
   |ok p=>
    obtain⟨y,M2⟩:=p;obtain⟨w,h2,rfl,f2,R2,q2⟩:=s2;rw[PR.bind_ok,Res.bind_ok];dsimp only;have rx:=R1.keep f2 q1.1;cases eb:qk M2 .add x.1 y.1 with
    |none=>trivial
    |some r=>
     rw[PR.ofO_some,PR.bind_ok];unfold qk at eb;split at eb
     ·cases eb;trivial
     ·cases eb
     ·rename_i e1 e2;dsimp only at eb;split at eb
      ·split at eb
       ·cases eb;trivial
       ·cases eb
      rename_i u0 u1 u2;clear u2;obtain⟨xs,m1,eb⟩:=Option.bind_eq_some_iff.mp eb;obtain⟨ys,m2,eb⟩:=Option.bind_eq_some_iff.mp eb;split at eb
      ·rename_i hl;cases eb;obtain⟨a1,vs,rfl,g1,k1⟩:=Q5 R2 rx m1;obtain⟨a2,us,rfl,g2,k2⟩:=Q5 R2 q2.1 m2;refine⟨h2,vs++us,?_,f1.trans f2,R2,reps_iff.mpr (qy (reps_iff.mp k1) (reps_iff.mp k2))⟩;show (match qe h2 a1,qe h2 a2 with|some xs,some ys=>if xs.length+ys.length<=lim then newL (xs++ys) h2 else .stuck|_,_=>_)=_;rw[g1,g2];dsimp only;rw[<-qC (reps_iff.mp k1),<-qC (reps_iff.mp k2),if_pos hl];rfl
      ·cases eb
     ·cases eb
omit hF in
omit hF in
omit hF in
omit hF in
omit hF in
omit hF in
omit hF in
omit hF in
def SimN(gl:List T)(A X:List Nat)(D n0:Nat)(h:AH):RSt->RS->Prop
 | .ok (o,M'),r=>∃oh h',r=.ok (oh,h')/\Frm (A++[D]) h h'/\RelM gl A X h' M'/\RelO gl A X n0 h' M' o oh
 | .exc _ _,_=>False
 | .stuck,_=>True
omit hF in
theorem SimN.pre{A X:List Nat}{D n0:Nat}{h h1:AH}{r:RSt}{rh:RS}(s:SimN gl A X D n0 h1 r rh)(f:Frm (A++[D]) h h1):SimN gl A X D n0 h r rh:=by
 match r,s with
 | .ok (o,M'),⟨oh,h',e,f1,R,ro⟩=>exact⟨oh,h',e,f.trans f1,R,ro⟩
 | .exc _ _,z=>exact z.elim
 | .stuck,_=>trivial
omit hF in
theorem Frm.more{A:List Nat}{D:Nat}{h h':AH}(f:Frm A h h'):Frm (A++[D]) h h':=⟨f.1,λj hj hA=>f.2 j hj λz=>hA (wE _ z)⟩
def qFv(gl:List T)(A X:List Nat)(h:AH):PR (List T×Mem)->Res (List V×AH)->Prop
 | .ok (ts,M'),r=>∃ws h' B,r=.ok (ws,h')/\Frm A h h'/\(∀b∈B,h.length<=b)/\RelM gl (A++B) (X++B) h' M'/\qM (A++B) (X++B) h' ts ws
 | .exc c M',r=>∃h' B,r=.exc c h'/\Frm A h h'/\(∀b∈B,h.length<=b)/\RelM gl (A++B) (X++B) h' M'
 | .stuck,_=>True
theorem D0:∀(as:Es) (A X:List Nat) (h:AH) (M:Mem) (σ:TS) (σh:List (Option V)),RelM gl A X h M->jU A X h σ σh->qFv gl A X h (ptw gl P as σ M) (evs F as σh h)
 | .nil,A,X,h,M,σ,σh,R,rs=>by
  rw[ptw,evs];exact⟨[],h,[],rfl,Frm.refl A h,λb hb=>by simp at hb,by simpa using R,by unfold qM;rfl⟩
 | .cons a as,A,X,h,M,σ,σh,R,rs=>by
  rw[ptw,evs];dsimp only;have se:=qW hF a A X h M σ σh R rs;revert se;generalize pe gl P a σ M=r;generalize ev F a σh h=rh;intro se;cases r with
  |stuck=>trivial
  |exc c M'=>
   obtain⟨h',rfl,f1,R1⟩:=se;exact⟨h',[],rfl,f1,λb hb=>by simp at hb,by simpa using R1⟩
  |ok p=>
   obtain⟨x,M1⟩:=p;obtain⟨w,h1,rfl,f1,R1,q⟩:=se;rw[PR.bind_ok,Res.bind_ok];dsimp only;split
   ·rename_i hc;obtain⟨fp,p,nd,l,R',_⟩:=q.2 hc;obtain⟨R2,r2⟩:=R'.thaw R.sub p nd;have sm:=D0 as (A++fp) (X++fp) h1 (M1++(thaw M1.length x.1).2) σ σh R2 (zd zT (QV R.sub f1 l) rs);revert sm;generalize ptw gl P as σ (M1++(thaw M1.length x.1).2)=r;generalize evs F as σh h1=rh;intro sm;cases r with
    |stuck=>trivial
    |exc c M'=>
     obtain⟨h',B,rfl,f2,hB,R3⟩:=sm;rw[List.append_assoc,List.append_assoc]at R3;exact⟨h',fp++B,rfl,f1.trans2 l f2,λb hb=>by
      rcases wD.mp hb with z|z
      ·exact l b z
      ·exact Nat.le_trans f1.1 (hB b z),R3⟩
    |ok p2=>
     obtain⟨ts,M2⟩:=p2;obtain⟨ws,h2,B,rfl,f2,hB,R3,q3⟩:=sm;have r3:=qp (zT (B:=B)) (QV R2.sub f2 hB) _ r2;rw[List.append_assoc,List.append_assoc]at R3 q3 r3;exact⟨w::ws,h2,fp++B,rfl,f1.trans2 l f2,λb hb=>by
      rcases wD.mp hb with z|z
      ·exact l b z
      ·exact Nat.le_trans f1.1 (hB b z),R3,by unfold qM;exact⟨w,ws,rfl,r3,q3⟩⟩
   ·have sm:=D0 as A X h1 M1 σ σh R1 (R.keepS f1 rs);revert sm;generalize ptw gl P as σ M1=r;generalize evs F as σh h1=rh;intro sm;cases r with
    |stuck=>trivial
    |exc c M'=>
     obtain⟨h',B,rfl,f2,hB,R3⟩:=sm;exact⟨h',B,rfl,f1.trans f2,λb hb=>Nat.le_trans f1.1 (hB b hb),R3⟩
    |ok p2=>
     obtain⟨ts,M2⟩:=p2;obtain⟨ws,h2,B,rfl,f2,hB,R3,q3⟩:=sm;have r3:=qp (zT (B:=B)) (QV R1.sub f2 hB) _ q.1;exact⟨w::ws,h2,B,rfl,f1.trans f2,λb hb=>Nat.le_trans f1.1 (hB b hb),R3,by unfold qM;exact⟨w,ws,rfl,r3,q3⟩⟩
mutual
theorem qDG:∀(s:S) (A X:List Nat) (h:AH) (M:Mem) (σ:TS) (σh:List (Option V)),RelM gl A X h M->jU A X h σ σh->SimS gl A X h (px gl P C s σ M) (ex F s σh h)
 | .asg g e,A,X,h,M,σ,σh,R,rs=>by
  rw[px,ex];dsimp only;have se:=qW hF e A X h M σ σh R rs;have tp:=λhe=>qAG hF e he A X h M σ σh R rs;revert se tp;generalize pe gl P e σ M=r;generalize ev F e σh h=rh;intro se tp;cases r with
  |stuck=>trivial
  |exc c M'=>
   obtain⟨h',rfl,f1,R1⟩:=se;exact⟨h',[],rfl,f1,λb hb=>by simp at hb,by simpa using R1⟩
  |ok p=>
   obtain⟨x,M1⟩:=p;obtain⟨w,h1,rfl,f1,R1,q⟩:=se;rw[PR.bind_ok,Res.bind_ok];dsimp only;have gen:∀{g:Tg}{σ1:TS},zR g x.1 σ=some σ1->SimS gl A X h (.ok (.nx σ1,M1)) (match store g w σh h1 with|some σ1=>.ok (.nx σ1,h1)|none=>.stuck):=λe=>by
    obtain⟨σh1,e2,rs2⟩:=jc e q.1 (R.keepS f1 rs);rw[e2];exact(SimS.mk (o:=.nx _) (oh:=.nx _) R1 rs2).pre f1
   cases g with
   |name i=>
    dsimp only;split
    ·rename_i hc;rw[Bool.and_eq_true]at hc;obtain⟨fp,p,nd,l,R',_⟩:=q.2 hc.2;obtain⟨R2,r2⟩:=R'.thaw R.sub p nd;refine⟨.nx (σh.set i (some w)),h1,fp,rfl,f1,l,R2,?_⟩;exact zx i (zd zT (QV R.sub f1 l) rs) (show qAu _ _ h1 (some _) (some w) from r2)
    ·split
     ·rename_i hc;rw[Bool.and_eq_true]at hc;have tp:=tp hc.2;obtain⟨x1,x2⟩:=x;dsimp only;split
      ·rename_i ts;obtain⟨h0,vs,e0,f0,R0,r0⟩:=tp;cases e0;refine⟨.nx (σh.set i (some (.ref h0.length))),_,[h0.length],rfl,f0.trans (Frm.app A h0 _),λb hb=>by simp at hb;have:=f0.1;omega,R0.cellN r0,?_⟩;refine zx i (zd zT (QV R0.sub (Frm.app A h0 _) (λb hb=>by simp at hb;omega)) (R.keepS f0 rs)) (show qAu _ _ _ (some _) (some _) from ?_);have rc:Rep (A++[h0.length]) (X++[h0.length]) (h0++[O.lst false vs]) (.cell M1.length) (.ref h0.length):=by
        unfold Rep;exact⟨h0.length,by rw[<-R0.len];simp,rfl⟩
       exact rc
      ·exact SimS.stuck
     ·exact gen (g:=.name i) rfl
   |tup is=>
    dsimp only;split
    ·rename_i σ1 e;exact gen e
    ·exact SimS.stuck
 | .put o i v,A,X,h,M,σ,σh,R,rs=>by
  rw[px,ex];dsimp only;refine Sim.bindS (qW hF v A X h M σ σh R rs) ?_;intro x M1 vx h1 f1 R1 q1;dsimp only;refine Sim.bindS (qW hF o A X h1 M1 σ σh R1 (R.keepS f1 rs)) ?_;intro y M2 w h2 f2 R2 q2;dsimp only;refine Sim.bindS (qW hF i A X h2 M2 σ σh R2 (R1.keepS f2 (R.keepS f1 rs))) ?_;intro z M3 u h3 f3 R3 q3;dsimp only;obtain⟨ty,fy⟩:=y;obtain⟨tz,fz⟩:=z;dsimp only;split
  ·rename_i n k;cases zC q3.1;have q:=R2.keep f3 q2.1;unfold Rep at q;obtain⟨p,ep,rfl⟩:=q;obtain⟨ts2,vs2,g1,g2,g3⟩:=R3.at_ n p ep;rw[g1];dsimp only;rw[show qe h3 p=some vs2 by unfold qe;rw[g2]];dsimp only;rw[<-qC (reps_iff.mp g3)];split
   ·rename_i j ej
    try simp only[ej]
    obtain⟨R4,f4⟩:=R3.put ep (reps_iff.mpr (zx j (reps_iff.mp g3) (R2.keep f3 (R1.keep f2 q1.1))));exact(SimS.mk (o:=.nx σ) (oh:=.nx σh) R4 (R3.keepS f4 (R2.keepS f3 (R1.keepS f2 (R.keepS f1 rs))))).pre f4
   ·exact SimS.stuck
  ·exact SimS.stuck
 | .expr e,A,X,h,M,σ,σh,R,rs=>by
  rw[px,ex];dsimp only;refine Sim.bindS (qW hF e A X h M σ σh R rs) ?_;intro x M1 v h1 f1 R1 q1;dsimp only;exact SimS.mk (o:=.nx σ) (oh:=.nx σh) R1 (R.keepS f1 rs)
 | .ret e,A,X,h,M,σ,σh,R,rs=>by
  rw[px,ex];dsimp only;have se:=qW hF e A X h M σ σh R rs;revert se;generalize pe gl P e σ M=r;generalize ev F e σh h=rh;intro se;cases r with
  |stuck=>trivial
  |exc c M'=>
   obtain⟨h',rfl,f1,R1⟩:=se;exact⟨h',[],rfl,f1,λb hb=>by simp at hb,by simpa using R1⟩
  |ok p=>
   obtain⟨x,M1⟩:=p;obtain⟨w,h1,rfl,f1,R1,q⟩:=se;exact⟨.rt w,h1,[],rfl,f1,λb hb=>by simp at hb,by simpa using R1,by simpa using (show RelO gl A X h.length h1 M1 (.rt x) (.rt w) from q)⟩
 | .rett as,A,X,h,M,σ,σh,R,rs=>by
  rw[px,ex];dsimp only;rw[show ev F (.tup as) σh h=(evs F as σh h).bind λp=>if p.1.length<=lim then newT p.1 p.2 else .stuck from by rw[ev],Res.bind_assoc];have sm:=D0 hF as A X h M σ σh R rs;revert sm;generalize ptw gl P as σ M=r;generalize evs F as σh h=rh;intro sm;cases r with
  |stuck=>trivial
  |exc c M'=>
   obtain⟨h',B,rfl,f1,hB,R1⟩:=sm;exact⟨h',B,rfl,f1,hB,R1⟩
  |ok p=>
   obtain⟨ts,M1⟩:=p;obtain⟨ws,h1,B,rfl,f1,hB,R1,q⟩:=sm;rw[PR.bind_ok,Res.bind_ok];dsimp only;split
   ·rename_i hl;rw[if_pos (by rw[<-qC (reps_iff.mp q)];exact hl)];have rp:Rep (A++B) (X++B) (h1++[O.tup ws]) (.tup ts) (.ref h1.length):=by
     unfold Rep;exact⟨h1.length,ws,rfl,λz=>by have:=R1.lt _ z;omega,by simp,R1.keeps (Frm.app (A++B) h1 _) q⟩
    exact⟨.rt (.ref h1.length),h1++[O.tup ws],B,rfl,f1.trans (Frm.app A h1 _),hB,R1.up _,⟨rp,λe=>by cases e⟩⟩
   ·exact SimS.stuck
 | .inl f ns b as,A,X,h,M,σ,σh,R,rs=>by
  rw[px,ex];dsimp only;have sm:=D0 hF as A X h M σ σh R rs;revert sm;generalize ptw gl P as σ M=r;generalize evs F as σh h=rh;intro sm;cases r with
  |stuck=>trivial
  |exc c M'=>
   obtain⟨h',B,rfl,f1,hB,R1⟩:=sm;exact⟨h',B,rfl,f1,hB,R1⟩
  |ok p=>
   obtain⟨ts,M1⟩:=p;obtain⟨ws,h1,B,rfl,f1,hB,R1,q⟩:=sm;rw[PR.bind_ok,Res.bind_ok];dsimp only;split
   ·rename_i hl;have el:=qC (reps_iff.mp q);rw[if_pos (by rw[<-el];exact hl),<-el];have sb:=ZM b (A++B) (X++B) h1 M1 _ _ R1 (Qf (ns-ts.length) q);revert sb;generalize pxs gl P C b (ts.map some++List.replicate (ns-ts.length) none) M1=r;generalize exs F b (ws.map some++List.replicate (ns-ts.length) none) h1=rh;intro sb;cases r with
    |stuck=>trivial
    |exc c M'=>trivial
    |ok p2=>
     obtain⟨o,M2⟩:=p2;obtain⟨oh,h2,B2,rfl,f2,hB2,R2,ro⟩:=sb;rw[List.append_assoc,List.append_assoc]at R2 ro;have hb3:∀b∈B++B2,h.length<=b:=λb hb=>by
      rcases wD.mp hb with z|z
      ·exact hB b z
      ·exact Nat.le_trans f1.1 (hB2 b z)
     have f3:Frm A h h2:=f1.trans2 hB f2;cases o with
     |nx σ2=>
      cases oh<;>first|exact ro.elim|skip
      have rn:Rep (A++(B++B2)) (X++(B++B2)) h2 (.v .non) .non:=by unfold Rep;exact⟨rfl,rfl⟩
      exact⟨.rt .non,h2,B++B2,rfl,f3,hb3,R2,⟨rn,λ_=>Frs.of_lf R2 rn rfl⟩⟩
     |rt t=>
      cases oh<;>first|exact ro.elim|skip
      exact⟨_,h2,B++B2,rfl,f3,hb3,R2,RelO.le ro f1.1⟩
     |bk σ2=>trivial
     |ct σ2=>trivial
   ·exact SimS.stuck
 | .ifs c t u,A,X,h,M,σ,σh,R,rs=>by
  rw[px,ex];dsimp only;refine Sim.bindS (L1 (qW hF c A X h M σ σh R rs)) ?_;rintro x M1 v h1 f1 R1 rfl;dsimp only;cases x with
  |true=>simp only[if_true];exact ZM t A X h1 M1 σ σh R1 (R.keepS f1 rs)
  |false=>simp only[Bool.false_eq_true,if_false];exact ZM u A X h1 M1 σ σh R1 (R.keepS f1 rs)
 | .for_ g it b,A,X,h,M,σ,σh,R,rs=>by
  rw[px,ex];dsimp only;refine Sim.bindS (l4 hF it A X h M σ σh R rs) ?_;intro s M1 sh h1 f1 R1 q1;dsimp only;rw[F8 q1];exact P9 (λA X h M σ σh R rs=>ZM b A X h M σ σh R rs) s.1 0 σ σh M1 h1 A X rfl (Nat.zero_le _) R1 q1 (R.keepS f1 rs)
 | .stop,A,X,h,M,σ,σh,R,rs=>by rw[px,ex];exact SimS.stuck
theorem ZM:∀(s:Ss) (A X:List Nat) (h:AH) (M:Mem) (σ:TS) (σh:List (Option V)),RelM gl A X h M->jU A X h σ σh->SimS gl A X h (pxs gl P C s σ M) (exs F s σh h)
 | .nil,A,X,h,M,σ,σh,R,rs=>by rw[pxs,exs];exact SimS.mk (o:=.nx σ) (oh:=.nx σh) R rs
 | .cons s r,A,X,h,M,σ,σh,R,rs=>by
  rw[pxs,exs];dsimp only;refine SimS.bind (qDG s A X h M σ σh R rs) ?_;intro o M1 oh h1 B f1 hB R1 ro;cases o with
  |nx σ2=>cases oh<;>first|exact .inl (ZM r _ _ h1 M1 _ _ R1 ro)|exact ro.elim
  |ct σ2=>cases oh<;>first|exact .inr ⟨rfl,rfl⟩|exact ro.elim
  |bk σ2=>cases oh<;>first|exact .inr ⟨rfl,rfl⟩|exact ro.elim
  |rt t=>cases oh<;>first|exact .inr ⟨rfl,rfl⟩|exact ro.elim
end
end
section
variable{gl:List T}{A X B:List Nat}{h h':AH}{M M1:Mem}
theorem mapM_cons{α β:Type}{f:α->Option β}{x:α}{xs:List α}{ys:List β}(e:(x::xs).mapM f=some ys):∃y ys',f x=some y/\xs.mapM f=some ys'/\ys=y::ys':=by
 rw[List.mapM_cons]at e;cases hf:f x with
 |none=>rw[hf]at e;cases e
 |some y=>
  rw[hf]at e;cases hg:xs.mapM f with
  |none=>rw[hg]at e;cases e
  |some ys'=>rw[hg]at e;cases e;exact⟨y,ys',rfl,rfl,rfl⟩
theorem mapM_nil{α β:Type}{f:α->Option β}{ys:List β}(e:([]:List α).mapM f=some ys):ys=[]:=by
 rw[List.mapM_nil]at e;cases e;rfl
theorem jZ{A1 X1:List Nat}{f:T->Option T}(hf:∀t t' w,f t=some t'->Rep A1 X1 h t w->Rep A X h t' w):∀{ts ts':List T}{vs:List V},ts.mapM f=some ts'->qM A1 X1 h ts vs->qM A X h ts' vs
 | [],ts',vs,e,r=>by cases mapM_nil e;unfold qM at r ⊢;exact r
 |t::ts,ts',vs,e,r=>by
  obtain⟨y,ys,e1,e2,rfl⟩:=mapM_cons e;unfold qM at r ⊢;obtain⟨v,vs',rfl,a,b⟩:=r;exact⟨v,vs',rfl,hf _ _ _ e1 a,jZ hf e2 b⟩
theorem K1(R:RelM gl (A++B) (X++B) h M1)(hB:∀b∈B,b∉X):∀(d:Nat) (t t':T) (w:V),qH M1 A.length d t=some t'->Rep (A++B) (X++B) h t w->Rep A X h t' w:=by
 have hu:∀(t:T) (w:V),t.und A.length=true->Rep (A++B) (X++B) h t w->Rep A X h t w:=λt w u r=>O6 (λn hn=>List.getElem?_append_left hn) (λa ha=>wE _ ha) t r u;have hX:∀a,a∉X++B->a∉X:=λa x z=>x (wE _ z);intro d
 induction d with
 |zero=>
  intro t t' w e r;unfold qH at e;split at e
  ·rename_i u;cases e;exact hu _ w u r
  ·cases e
 |succ d ih=>
  intro t t' w e r;unfold qH at e;split at e
  ·rename_i u;cases e;exact hu _ w u r
  ·rename_i u;cases t with
   |v x=>cases e
   |ob o=>cases e
   |fz ts=>cases e
   |lst ts=>
    obtain⟨ts',e1,rfl⟩:=Option.map_eq_some_iff.mp e;unfold Rep at r ⊢;obtain⟨a,vs,rfl,q1,q2,q3⟩:=r;exact⟨a,vs,rfl,hX a q1,q2,jZ ih e1 q3⟩
   |tup ts=>
    obtain⟨ts',e1,rfl⟩:=Option.map_eq_some_iff.mp e;unfold Rep at r ⊢;obtain⟨a,vs,rfl,q1,q2,q3⟩:=r;exact⟨a,vs,rfl,hX a q1,q2,jZ ih e1 q3⟩
   |cell n=>
    obtain⟨ts,e0,e⟩:=Option.bind_eq_some_iff.mp (show (M1[n]?).bind _=_ from e);obtain⟨ts',e1,rfl⟩:=Option.map_eq_some_iff.mp e;have hn:A.length<=n:=by
     unfold T.und at u;simpa using u
    unfold Rep at r ⊢;obtain⟨a,ea,rfl⟩:=r;obtain⟨ts2,vs,g1,g2,g3⟩:=R.at_ n a ea;rw[e0]at g1;cases g1;rw[List.getElem?_append_right hn]at ea;exact⟨a,vs,rfl,hB a (List.mem_of_getElem? ea),g2,jZ ih e1 g3⟩
mutual
theorem O1(n:Nat):∀(t:T),t.lf=true->t.und n=true
 | .v x,_=>rfl
 | .cell _,l=>by unfold T.lf at l;cases l
 | .ob _,_=>rfl
 | .fz _,l=>by unfold T.lf at l;cases l
 | .lst _,l=>by unfold T.lf at l;cases l
 | .tup ts,l=>by unfold T.lf at l;unfold T.und;exact Za n ts l
theorem Za(n:Nat):∀(ts:List T),T.lfs ts=true->T.unds n ts=true
 | [],_=>rfl
 |t::ts,l=>by unfold T.lfs at l;rw[Bool.and_eq_true]at l;unfold T.unds;rw[O1 n t l.1,Za n ts l.2];rfl
end
theorem T5{n0:Nat}{f:T->Option (List Nat)}(hf:∀t l,f t=some l->t.und n0=true->t.lf=true):∀{ts:List T}{ls:List (List Nat)},ts.mapM f=some ls->T.unds n0 ts=true->T.lfs ts=true
 | [],ls,e,u=>rfl
 |t::ts,ls,e,u=>by
  obtain⟨y,ys,e1,e2,rfl⟩:=mapM_cons e;unfold T.unds at u;rw[Bool.and_eq_true]at u;unfold T.lfs;rw[hf t _ e1 u.1,T5 hf e2 u.2];rfl
theorem N7{n0:Nat}:∀(d:Nat) (t:T) (l:List Nat),zE M1 n0 d t=some l->t.und n0=true->t.lf=true:=by
 intro d
 induction d with
 |zero=>intro t l e u;unfold zE at e;split at e<;>first|assumption|cases e
 |succ d ih=>
  intro t l e u;unfold zE at e;split at e
  ·assumption
  ·cases t with
   |tup ts=>
    obtain⟨ls,e1,rfl⟩:=Option.map_eq_some_iff.mp e;unfold T.und at u;unfold T.lf;exact T5 ih e1 u
   |cell n=>
    dsimp only at e;split at e
    ·rename_i hn;unfold T.und at u;simp at u;omega
    ·cases e
   |v x=>cases e
   |ob o=>cases e
   |fz ts=>cases e
   |lst ts=>cases e
theorem Zz{A1 X1:List Nat}{n0:Nat}{f:T->Option (List Nat)}{g:T->Option T}(hf:∀t l t' w,f t=some l->g t=some t'->Rep A1 X1 h t w->∃fp,FP X h t' w fp/\fp.map some=l.map (A1[·]?)/\∀n∈l,n0<=n):
  ∀{ts ts':List T}{ls:List (List Nat)}{vs:List V},ts.mapM f=some ls->ts.mapM g=some ts'->qM A1 X1 h ts vs->∃fp,FPs X h ts' vs fp/\fp.map some=ls.flatten.map (A1[·]?)/\∀n∈ls.flatten,n0<=n
 | [],ts',ls,vs,e,e',r=>by
  cases mapM_nil e;cases mapM_nil e';unfold qM at r;exact⟨[],by unfold FPs;exact⟨r,rfl⟩,rfl,λn hn=>by simp at hn⟩
 |t::ts,ts',ls,vs,e,e',r=>by
  obtain⟨y,ys,e1,e2,rfl⟩:=mapM_cons e;obtain⟨z,zs,e3,e4,rfl⟩:=mapM_cons e';unfold qM at r;obtain⟨v,vs',rfl,a,b⟩:=r;obtain⟨f1,p1,q1,n1⟩:=hf _ _ _ _ e1 e3 a;obtain⟨f2,p2,q2,n2⟩:=Zz hf e2 e4 b;refine⟨f1++f2,by unfold FPs;exact⟨v,vs',f1,f2,rfl,p1,p2,rfl⟩,by simp[q1,q2],λn hn=>?_⟩;rw[List.flatten_cons]at hn;rcases wD.mp hn with z|z
  ·exact n1 n z
  ·exact n2 n z
theorem QY{n0:Nat}{d:Nat}{t t':T}(u:t.und n0=true)(e:qH M1 n0 d t=some t'):t'=t:=by
 cases d<;>(unfold qH at e;rw[if_pos u]at e;cases e;rfl)
theorem Y8(R:RelM gl (A++B) (X++B) h M1)(hB:∀b∈B,b∉X):∀(d:Nat) (t:T) (l:List Nat) (t':T) (w:V),zE M1 A.length d t=some l->qH M1 A.length d t=some t'->Rep (A++B) (X++B) h t w ->
  ∃fp,FP X h t' w fp/\fp.map some=l.map ((A++B)[·]?)/\∀n∈l,A.length<=n:=by
 have hX:∀a,a∉X++B->a∉X:=λa x z=>x (wE _ z);have lfc:∀{d:Nat}{t t':T}{w:V},t.lf=true->qH M1 A.length d t=some t'->Rep (A++B) (X++B) h t w->∃fp:List Nat,FP X h t' w fp/\fp.map some=([]:List Nat).map ((A++B)[·]?)/\∀n∈([]:List Nat),A.length<=n:=by
  intro d t t' w l e r;cases QY (O1 _ t l) e;exact⟨[],ZF (λa o x y=>⟨hX a x,y⟩) _ (qAQ _ r l),rfl,λn hn=>by simp at hn⟩
 intro d
 induction d with
 |zero=>
  intro t l t' w e e' r;unfold zE at e;split at e
  ·rename_i hl;cases e;exact lfc hl e' r
  ·cases e
 |succ d ih=>
  intro t l t' w e e' r;unfold zE at e;split at e
  ·rename_i hl;cases e;exact lfc hl e' r
  ·rename_i hl;have hu:t.und A.length≠true:=λu=>hl (N7 (M1:=M1) (d+1) t l (by unfold zE;rw[if_neg hl];exact e) u);unfold qH at e';rw[if_neg hu]at e';cases t with
   |tup ts=>
    obtain⟨ls,e1,rfl⟩:=Option.map_eq_some_iff.mp e;obtain⟨ts',e2,rfl⟩:=Option.map_eq_some_iff.mp e';unfold Rep at r;obtain⟨a,vs,rfl,q1,q2,q3⟩:=r;obtain⟨fp,p1,p2,p3⟩:=Zz ih e1 e2 q3;exact⟨fp,by unfold FP;exact⟨a,vs,rfl,hX a q1,q2,p1⟩,p2,p3⟩
   |cell n=>
    dsimp only at e e';split at e
    ·rename_i hn;obtain⟨ts,e0,e⟩:=Option.bind_eq_some_iff.mp e;obtain⟨ls,e1,rfl⟩:=Option.map_eq_some_iff.mp e;rw[e0]at e';dsimp only[Option.bind_some]at e';obtain⟨ts',e2,rfl⟩:=Option.map_eq_some_iff.mp e';unfold Rep at r;obtain⟨a,ea,rfl⟩:=r;obtain⟨ts2,vs,g1,g2,g3⟩:=R.at_ n a ea;rw[e0]at g1;cases g1;obtain⟨fp,p1,p2,p3⟩:=Zz ih e1 e2 g3;have ea2:=ea;rw[List.getElem?_append_right hn]at ea2;refine⟨fp++[a],by unfold FP;exact⟨a,vs,fp,rfl,hB a (List.mem_of_getElem? ea2),g2,p1,rfl⟩,?_,λm hm=>?_⟩
     ·rw[wT,wT,p2];simp[ea]
     ·rcases wD.mp hm with z|z
      ·exact p3 m z
      ·simp at z;omega
    ·cases e
   |v x=>cases e
   |ob o=>cases e
   |fz ts=>cases e
   |lst ts=>cases e
theorem Zw{X' Y:List Nat}(R:RelM gl (A++B) Y h M1)(hX:∀a∈X',a∈Y)(hA:∀a∈A,a∈X')(hc:(M1.take A.length).all (T.unds A.length)=true)(hg:∀(g:Nat) t,gl[g]?=some t->Rep A X' h t (.ref g)):RelM gl A X' h (M1.take A.length):=by
 have l:=R.len;rw[List.length_append]at l;refine⟨by rw[wO];omega,(we.mp R.nd).1,hA,λa ha=>R.lt a (hX a ha),λn a e=>?_,hg⟩;have hn:=(List.getElem?_eq_some_iff.mp e).1;obtain⟨ts,vs,e1,e2,e3⟩:=R.at_ n a (zT n a e);refine⟨ts,vs,by rw[wM hn];exact e1,e2,ji (λn hn=>List.getElem?_append_left hn) hX ts e3 ?_⟩;rw[wL]at hc;refine hc ts (List.mem_of_getElem? (i:=n) ?_);rw[wM hn];exact e1
theorem M0{M:Mem}{n0 d:Nat}{t:T}{o:Ob}(h:qH M n0 d t=some (.ob o)):t=.ob o:=by
 cases d with
 |zero=>
  unfold qH at h;split at h
  ·cases h;rfl
  ·cases h
 |succ d=>
  unfold qH at h;split at h
  ·cases h;rfl
  ·cases t with
   |lst ts=>cases hh:ts.mapM (qH M n0 d)<;>simp[hh]at h
   |tup ts=>cases hh:ts.mapM (qH M n0 d)<;>simp[hh]at h
   |cell n=>
    cases hm:M[n]? with
    |none=>simp[hm]at h
    |some ts=>cases hh:ts.mapM (qH M n0 d)<;>simp[hm,hh]at h
   |_=>cases h
theorem Jp(R0:RelM gl A X h M)(f:Frm A h h')(hB:∀b∈B,h.length<=b)(R:RelM gl (A++B) (X++B) h' M1){x:TB}{w:V}(q:QE gl (A++B) (X++B) h.length x w h' M1):Sim gl A X h (QE gl A X h.length) (finish M.length x M1) (.ok (w,h')):=by
 have hBX:∀b∈B,b∉X:=λb z y=>by have:=hB b z;have:=R0.lt b y;omega
 have hX:∀a,a∉X++B->a∉X:=λa x z=>x (wE _ z);have hg:∀{Z:List Nat},(∀a∈Z,h.length<=a)->∀(g:Nat) t,gl[g]?=some t->Rep A (X++Z) h' t (.ref g):=λhZ g t e=>qp (λ_ _ e=>e) (λa o x y=>⟨by
   rw[wD];rintro(z|z)
   ·exact x z
   ·have:=hZ a z;have:=qN y;omega,(R0.keepN f a o x y).2⟩) t (R0.glo g t e)
 unfold finish;rw[<-R0.len];split
 ·rename_i hl;have hB0:B=[]:=by
   have:=R.len;rw[List.length_append,hl]at this;exact List.length_eq_zero_iff.mp (by omega)
  subst hB0;rw[List.append_nil,List.append_nil]at R q;exact⟨w,h',rfl,f,R,q⟩
 split
 ·rename_i hc;refine Sim.ofO λt' et=>?_;have R':RelM gl A X h' (M1.take A.length):=by
   have:=Zw (X':=X++[]) R (λa ha=>by simp at ha;exact wE _ ha) (λa ha=>by simp;exact R0.sub a ha) hc (hg λa ha=>by simp at ha);simpa using this
  refine⟨w,h',rfl,f,R',K1 R hBX 6 _ _ _ et q.1,λe=>?_⟩;rw[vN]at e;rcases e with e|e
  ·obtain⟨fp,p,nd,l,Rf,nw⟩:=q.2 e;cases QY (k8 A.length _ p) et;have cr:∀{Z:List Nat},(∀a∈Z,h.length<=a)->RelM gl (A++B) (X++B++Z) h' M1->RelM gl A (X++Z) h' (M1.take A.length):=λ{Z} hZ q=>Zw q (λa ha=>by
    rcases wD.mp ha with z|z
    ·exact wE _ (wE _ z)
    ·exact wG _ z) (λa ha=>wE _ (R0.sub a ha)) hc (hg hZ)
   exact⟨fp,ZF (λa o x y=>⟨hX a x,y⟩) _ p,nd,l,cr l Rf,λkvs e=>by
    obtain⟨a,q1,q2,q3⟩:=nw kvs e;exact⟨a,q1,q2,cr (λz hz=>by rw[wQ.mp hz];exact q2) q3⟩⟩
  ·unfold frR at e;split at e
   ·rename_i l el;have ndl:l.Nodup:=by simpa using e
    obtain⟨fp,p,pm,pn⟩:=Y8 R hBX 6 _ _ _ _ el et q.1;have fB:∀a∈fp,a∈B:=λa ha=>by
     have:some a∈fp.map some:=List.mem_map_of_mem ha;rw[pm]at this;obtain⟨n,hn,en⟩:=vR.mp this;rw[List.getElem?_append_right (pn n hn)]at en;exact List.mem_of_getElem? en
    have nd:fp.Nodup:=by
     have:(fp.map some).Nodup:=by
      rw[pm];refine List.pairwise_map.mpr (List.Pairwise.imp_of_mem ?_ ndl);intro n m hn hm hnm e;have:(A++B)[n]?∈fp.map some:=by rw[pm];exact List.mem_map_of_mem hn
      obtain⟨a,_,ea⟩:=vR.mp this;exact hnm ((List.getElem?_inj (List.getElem?_eq_some_iff.mp ea.symm).1 R.nd).mp e)
     exact(List.pairwise_map.mp this).imp λ{a b} z e=>z (by rw[e])
    refine⟨fp,p,nd,λa ha=>hB a (fB a ha),Zw R (λa ha=>?_) (λa ha=>wE _ (R0.sub a ha)) hc (hg λa ha=>hB a (fB a ha)),λkvs e=>by have e:t'=.ob (.dct kvs):=e;subst e;rw[M0 et]at el;simp[zE,T.lf]at el⟩;rcases wD.mp ha with z|z
    ·exact wE _ z
    ·exact wG _ (fB a z)
   ·cases e
 ·exact Sim.stuck
end
theorem qCc(gl:List T)(tb:List Fn)(Cs:List (List Nat)):∀(k f:Nat) (ts:List T) (ws:List V) (A X:List Nat) (h:AH) (M:Mem),RelM gl A X h M->qM A X h ts ws->Sim gl A X h (QE gl A X h.length) (Pk gl tb Cs k f ts M) (Fk tb k f ws h)
 | 0,f,ts,ws,A,X,h,M,R,rs=>Sim.stuck
 |k+1,f,ts,ws,A,X,h,M,R,rs=>by
  unfold Pk Fk;cases ed:tb[f]? with
  |none=>exact Sim.stuck
  |some d=>
   dsimp only;rw[<-qC (reps_iff.mp rs)];split
   ·have s:=ZM (Cs.getD f []) (qCc gl tb Cs k) d.body A X h M _ _ R (Qf (d.nslot-d.npar) rs);revert s;generalize pxs gl (Pk gl tb Cs k) (Cs.getD f []) d.body (ts.map some++List.replicate (d.nslot-d.npar) none) M=r;generalize exs (Fk tb k) d.body (ws.map some++List.replicate (d.nslot-d.npar) none) h=rh;intro s;cases r with
    |stuck=>exact Sim.stuck
    |exc c M1=>
     obtain⟨h',B,rfl,f1,hB,R1⟩:=s;show Sim gl A X h _ (if _ then _ else if _ then _ else _) _;split
     ·rename_i hl;have hB0:B=[]:=by
       have:=R1.len;rw[List.length_append,hl,R.len]at this;exact List.length_eq_zero_iff.mp (by omega)
      subst hB0;rw[List.append_nil,List.append_nil]at R1;exact⟨h',rfl,f1,R1⟩
     split
     ·rename_i hc;refine⟨h',rfl,f1,?_⟩;rw[<-R.len]at hc ⊢;exact Zw R1 (λa ha=>wE _ ha) R.sub hc λg t e=>R.keep f1 (R.glo g t e)
     ·exact Sim.stuck
    |ok p=>
     obtain⟨o,M1⟩:=p;obtain⟨oh,h',B,rfl,f1,hB,R1,ro⟩:=s;rw[Res.bind_ok];cases o with
     |nx σ=>
      cases oh<;>first|exact ro.elim|skip
      have r:Rep (A++B) (X++B) h' (.v .non) .non:=by unfold Rep;exact⟨rfl,rfl⟩
      exact Jp R f1 hB R1 (show QE gl (A++B) (X++B) h.length (.v .non,true) .non h' M1 from⟨r,λ_=>Frs.of_lf R1 r rfl⟩)
     |rt t=>
      cases oh<;>first|exact ro.elim|skip
      exact Jp R f1 hB R1 ro
     |bk σ=>exact Sim.stuck
     |ct σ=>exact Sim.stuck
   ·exact Sim.stuck
noncomputable def glT(gs:List O):List T:=gs.map λo=>match o with | .tup xs=>.tup (xs.map .v) | .lst _ xs=>.fz (xs.map .v) | .ob _=>.v .non
noncomputable def qBB(gs:List O):Bool:=gs.all λo=>match o with | .tup xs=>xs.all flat|_=>false
theorem qBY{gs:List O}{tb:List Fn}{Cs:List (List Nat)}{k i:Nat}{ns:List Int}{b:Bool}{M':Mem}(hg:qBB gs=true)(e:Pk (glT gs) tb Cs k i [.fz (ns.map λn=>.v (.int n))] []=.ok ((.v (.bl true),b),M')):
  ∃h',Fk tb k i [.ref gs.length] (gs++[.lst true (ns.map V.int)])=.ok (.bl true,h'):=by
 have R:RelM (glT gs) [] [] (gs++[.lst true (ns.map V.int)]) []:=by
  refine⟨rfl,vE,λa ha=>by simp at ha,λa ha=>by simp at ha,λn a e=>by simp at e,λg t eg=>?_⟩;unfold glT at eg;rw[wP]at eg;obtain⟨o,eo,rfl⟩:=Option.map_eq_some_iff.mp eg;unfold qBB at hg;rw[wL]at hg;have ho:=hg o (List.mem_of_getElem? eo);cases o with
  |lst _ _=>cases ho
  |ob _=>cases ho
  |tup xs=>
   dsimp only;unfold Rep;exact⟨g,xs,rfl,by simp,by rw[List.getElem?_append_left (List.getElem?_eq_some_iff.mp eo).1];exact eo,jV ho⟩
 have rs:qM [] [] (gs++[O.lst true (ns.map V.int)]) [.fz (ns.map λn=>.v (.int n))] [.ref gs.length]:=by
  unfold qM;refine⟨_,[],rfl,?_,by unfold qM;rfl⟩;unfold Rep;refine⟨gs.length,ns.map V.int,rfl,by simp,by simp,?_⟩;have:ns.map (λn=>T.v (.int n))=(ns.map V.int).map .v:=by rw[wa];rfl
  rw[this];exact jV (by simp[flat])
 have s:=qCc (glT gs) tb Cs k i _ _ [] [] _ [] R rs;rw[e]at s;obtain⟨w,h',e1,_,_,q⟩:=s;cases zC q.1;exact⟨h',e1⟩
noncomputable def qCi(t:T):Option TB:=match t with | .v (.int i)=>some (iT (-i))|_=>none
noncomputable def qDX(M:Mem)(p k x:T):Option Mem:=match p,k with
 | .cell n,.v (.int j)=>(M[n]?).bind λxs=>(L2.ixN xs.length j).map λj=>M.set n (xs.set j x)
 |_,_=>none
noncomputable def g4(M:Mem)(n:Nat)(x:T):Option Mem:=(M[n]?).bind λxs=>if xs.length<lim then some (M.set n (xs++[x])) else none
noncomputable def z0(t:T):Option (List T):=match t with | .v (.int j)=>if -1000000<=j/\j<=100000 then some (qf 0 j.toNat) else none|_=>none
noncomputable def qCo(t:T):Option (List T):=match t with | .v (.int j)=>if -1000000<=j/\j<=1000000 then some (qf 0 j.toNat) else none|_=>none
noncomputable def qAY(s t:T):Option (List T):=match s,t with | .v (.int i),.v (.int j)=>if (-1000000<=i/\i<=1000000)/\-1000000<=j/\j<=1000000 then some (qf i (j-i).toNat) else none|_,_=>none
section
variable{gl:List T}{P:Nat->List T->Mem->PR (TB×Mem)}{C:List Nat}{σ:TS}{M:Mem}{a b c e:E}{as lo hi:Es}
@[simp] theorem pe_var(i:Nat):pe gl P (.var i) σ M=match σ[i]? with|some (some t)=>.ok ((t,t.lf),M)|_=>.stuck:=Eq.trans rfl rfl
@[simp] theorem pe_int(i:Int):pe gl P (.cst (.int i)) σ M=.ok (iT i,M):=Eq.trans rfl rfl
@[simp] theorem pe_bl(i:Bool):pe gl P (.cst (.bl i)) σ M=.ok (bT i,M):=Eq.trans rfl rfl
@[simp] theorem pe_non:pe gl P (.cst .non) σ M=.ok ((.v .non,true),M):=Eq.trans rfl rfl
@[simp] theorem pe_str(s:PySem.Str):pe gl P (.cst (.str s)) σ M=.ok ((.v (.str s),true),M):=Eq.trans rfl rfl
@[simp] theorem pe_glob(g:Nat):pe gl P (.glob g) σ M=match gl[g]? with|some t=>.ok ((t,t.lf),M)|none=>.stuck:=Eq.trans rfl rfl
@[simp] theorem qE3(op:BOp):pe gl P (.bin op a b) σ M=(pe gl P a σ M).bind λp=>(pe gl P b σ p.2).bind λq=>(PR.ofO (qk q.2 op p.1.1 q.1.1)).bind λr=>.ok (r,q.2):=Eq.trans rfl rfl
@[simp] theorem qED:pe gl P (.neg a) σ M=(pe gl P a σ M).bind λp=>(PR.ofO (qCi p.1.1)).bind λr=>.ok (r,p.2):=by
 show PR.bind _ _=_;dsimp only;congr 1;funext p;obtain⟨⟨p1,p3⟩,p2⟩:=p;dsimp only;unfold qCi;cases p1<;>first|rfl|skip
 rename_i x;cases x<;>rfl
@[simp] theorem qCP(op:COp):pe gl P (.cmp op a b) σ M=(pe gl P a σ M).bind λp=>(pe gl P b σ p.2).bind λq=>(PR.ofO (qo q.2 op p.1.1 q.1.1)).bind λr=>.ok (bT r,q.2):=Eq.trans rfl rfl
@[simp] theorem qC2(o1 o2:COp):pe gl P (.cmp2 o1 o2 a b c) σ M=(pe gl P a σ M).bind λp=>(pe gl P b σ p.2).bind λq=>(PR.ofO (qo q.2 o1 p.1.1 q.1.1)).bind λr=>
  if r=true then (pe gl P c σ q.2).bind λz=>(PR.ofO (qo z.2 o2 q.1.1 z.1.1)).bind λr=>.ok (bT r,z.2) else .ok (bT false,q.2):=Eq.trans rfl rfl
@[simp] theorem pe_and:pe gl P (.and a b) σ M=(pB (pe gl P a σ M)).bind λp=>if p.1=true then pe gl P b σ p.2 else .ok (bT false,p.2):=Eq.trans rfl rfl
@[simp] theorem pe_or:pe gl P (.or a b) σ M=(pB (pe gl P a σ M)).bind λp=>if p.1=true then .ok (bT true,p.2) else pe gl P b σ p.2:=Eq.trans rfl rfl
@[simp] theorem pe_not:pe gl P (.not a) σ M=(pB (pe gl P a σ M)).bind λp=>.ok (bT (!p.1),p.2):=Eq.trans rfl rfl
@[simp] theorem qEv:pe gl P (.ite c a b) σ M=(pB (pe gl P c σ M)).bind λp=>if p.1=true then pe gl P a σ p.2 else pe gl P b σ p.2:=Eq.trans rfl rfl
@[simp] theorem pe_call(f:Nat):pe gl P (.call f as) σ M=(pes gl P as σ M).bind λp=>(P f (p.1.map (·.1)) p.2).nx:=Eq.trans rfl rfl
@[simp] theorem qEV(f:BF):pe gl P (.blt f as) σ M=(pes gl P as σ M).bind λp=>(PR.ofO (zi p.2 f (p.1.map (·.1)))).bind λr=>.ok (r,p.2):=Eq.trans rfl rfl
@[simp] theorem qEt(ts:List String):pe gl P (.isi a ts) σ M=(pe gl P a σ M).bind λp=>(PR.ofO (zN p.2 p.1.1)).bind λt=>.ok (bT (ts.any (zY t)),p.2):=Eq.trans rfl rfl
@[simp] theorem qEW:pe gl P (.idx a b) σ M=(pe gl P a σ M).bind λp=>(pe gl P b σ p.2).bind λq=>(PR.ofO (JF q.2 p.1.1 q.1.1)).bind λr=>.ok (r,q.2):=Eq.trans rfl rfl
@[simp] theorem qAX:pe gl P (.sl a lo hi) σ M=(pe gl P a σ M).bind λp=>(pes gl P lo σ p.2).bind λl=>(pes gl P hi σ l.2).bind λu=>
  (PR.ofO (p.1.1.its u.2)).bind λxs=>(PR.ofO (za (l.1.map (·.1)))).bind λi=>(PR.ofO (za (u.1.map (·.1)))).bind λj=>(PR.ofO (Z7 p.1.1 xs i.head? j.head?)).bind λr=>.ok (r,u.2):=Eq.trans rfl rfl
@[simp] theorem pe_lst:pe gl P (.lst as) σ M=(pes gl P as σ M).bind λp=>if p.1.length<=lim then .ok ((.lst (p.1.map (·.1)),p.1.all (·.2)),p.2) else .stuck:=Eq.trans rfl rfl
@[simp] theorem pe_tup:pe gl P (.tup as) σ M=(pes gl P as σ M).bind λp=>if p.1.length<=lim then .ok ((.tup (p.1.map (·.1)),p.1.all (·.2)),p.2) else .stuck:=Eq.trans rfl rfl
@[simp] theorem pe_comp(it:Itr)(src:List (Option Nat))(g:Tg)(c:Es):pe gl P (.comp it src g c e) σ M=(pei gl P it σ M).bind λp=>qb p.1.2 g (pec gl P c) (pe gl P e) p.1.1 [] true (zu src σ) p.2:=Eq.trans rfl rfl
@[simp] theorem qEg:pe gl P (.app a b) σ M=(pe gl P a σ M).bind λp=>match p.1.1 with
  | .cell n=>(pe gl P b σ p.2).bind λq=>(PR.ofO (g4 q.2 n q.1.1)).bind λM'=>.ok ((.v .non,true),M')
  |_=>.stuck:=by
 show PR.bind _ _=_;dsimp only;congr 1;funext p;obtain⟨⟨p1,p3⟩,p2⟩:=p;dsimp only;cases p1<;>dsimp only;congr 1;funext q;obtain⟨⟨q1,q3⟩,q2⟩:=q;dsimp only;unfold g4;rename_i n;cases h:q2[n]? with
 |none=>rfl
 |some xs=>
  dsimp only[Option.bind_some];split<;>rfl
@[simp] theorem qDv:pe gl P (.lrng a) σ M=(pe gl P a σ M).bind λp=>(PR.ofO (z0 p.1.1)).bind λxs=>.ok ((.lst xs,true),p.2):=by
 show PR.bind _ _=_;dsimp only;congr 1;funext p;obtain⟨⟨p1,p3⟩,p2⟩:=p;dsimp only;unfold z0;cases p1<;>first|rfl|skip
 rename_i x;cases x<;>first|rfl|skip
 dsimp only;split<;>rfl
@[simp] theorem qDQ(m:Mt):pe gl P (.meth m a as) σ M=(pe gl P a σ M).bind λp=>match p.1.1 with
  | .cell n=>(pes gl P as σ p.2).bind λq=>PR.ofO (N9 m n (q.1.map (·.1)) q.2)
  |_=>.stuck:=Eq.trans rfl rfl
@[simp] theorem qDF:pe gl P .dnew σ M=.ok ((.ob (.dct []),true),M):=Eq.trans rfl rfl
@[simp] theorem qDe:pes gl P .nil σ M=.ok ([],M):=Eq.trans rfl rfl
@[simp] theorem qCd:pes gl P (.cons a as) σ M=(pe gl P a σ M).bind λp=>(pes gl P as σ p.2).bind λq=>.ok (p.1::q.1,q.2):=Eq.trans rfl rfl
@[simp] theorem jK:pec gl P .nil σ M=.ok (true,M):=Eq.trans rfl rfl
@[simp] theorem ql:pec gl P (.cons a as) σ M=pB (pe gl P a σ M):=Eq.trans rfl rfl
@[simp] theorem qCs:pei gl P (.list a) σ M=(pe gl P a σ M).bind λp=>(PR.ofO (L0 p.2 p.1.1)).bind λs=>.ok (s,p.2):=Eq.trans rfl rfl
@[simp] theorem qCr:pei gl P (.rng1 a) σ M=(pe gl P a σ M).bind λp=>(PR.ofO (qCo p.1.1)).bind λxs=>.ok ((xs,[]),p.2):=by
 show PR.bind _ _=_;dsimp only;congr 1;funext p;obtain⟨⟨p1,p3⟩,p2⟩:=p;dsimp only;unfold qCo;cases p1<;>first|rfl|skip
 rename_i x;cases x<;>first|rfl|skip
 dsimp only;split<;>rfl
@[simp] theorem qCk:pei gl P (.rng2 a b) σ M=(pe gl P a σ M).bind λp=>(pe gl P b σ p.2).bind λq=>(PR.ofO (qAY p.1.1 q.1.1)).bind λxs=>.ok ((xs,[]),q.2):=by
 show PR.bind _ _=_;dsimp only;congr 1;funext p;congr 1;funext q;obtain⟨⟨p1,p3⟩,p2⟩:=p;obtain⟨⟨q1,q3⟩,q2⟩:=q;dsimp only;unfold qAY;cases p1<;>first|rfl|skip
 rename_i x;cases x<;>first|rfl|skip
 cases q1<;>first|rfl|skip
 rename_i y;cases y<;>first|rfl|skip
 dsimp only;split<;>rfl
@[simp] theorem qDR:pei gl P (.zip a b) σ M=(pe gl P a σ M).bind λp=>(pe gl P b σ p.2).bind λq=>(PR.ofO (W8 q.2 p.1.1)).bind λs=>(PR.ofO (W8 q.2 q.1.1)).bind λt=>
  .ok ((List.zipWith (λa b=>T.tup [a,b]) s.1 t.1,s.2++t.2),q.2):=Eq.trans rfl rfl
variable{s:S}{r t u:Ss}
@[simp] theorem y9(i:Nat):px gl P C (.asg (.name i) e) σ M=(pe gl P e σ M).bind λp=>if (C.contains i&&p.1.2)=true then .ok (.nx (σ.set i (some (thaw p.2.length p.1.1).1)),p.2++(thaw p.2.length p.1.1).2) else if (C.contains (i+1000)&&qB4 e)=true then (match p.1.1 with | .lst ts=>.ok (.nx (σ.set i (some (.cell p.2.length))),p.2++[ts])|_=>.stuck) else .ok (.nx (σ.set i (some p.1.1)),p.2):=Eq.trans rfl rfl
@[simp] theorem qEu(is:List Nat):px gl P C (.asg (.tup is) e) σ M=(pe gl P e σ M).bind λp=>match zR (.tup is) p.1.1 σ with|some σ1=>.ok (.nx σ1,p.2)|none=>.stuck:=Eq.trans rfl rfl
@[simp] theorem qD5{o i v:E}:px gl P C (.put o i v) σ M=(pe gl P v σ M).bind λx=>(pe gl P o σ x.2).bind λp=>(pe gl P i σ p.2).bind λk=>(PR.ofO (qDX k.2 p.1.1 k.1.1 x.1.1)).bind λM'=>.ok (.nx σ,M'):=by
 show PR.bind _ _=_;dsimp only;congr 1;funext x;congr 1;funext p;congr 1;funext k;obtain⟨⟨k1,k3⟩,k2⟩:=k;obtain⟨⟨p1,p3⟩,p2⟩:=p;dsimp only;unfold qDX;cases p1<;>first|rfl|skip
 rename_i n;cases k1<;>first|rfl|skip
 rename_i y;cases y<;>first|rfl|skip
 rename_i j;dsimp only;cases h:k2[n]? with
 |none=>rfl
 |some xs=>
  dsimp only[Option.bind_some];have hj:PI.ixN xs.length j=L2.ixN xs.length j:=rfl;rw[hj];cases L2.ixN xs.length j with
  |none=>rfl
  |some j=>rfl
@[simp] theorem qDI:px gl P C (.expr e) σ M=(pe gl P e σ M).bind λp=>.ok (.nx σ,p.2):=Eq.trans rfl rfl
@[simp] theorem qD2:px gl P C (.ret e) σ M=(pe gl P e σ M).bind λp=>.ok (.rt p.1,p.2):=Eq.trans rfl rfl
@[simp] theorem qEE:px gl P C (.ifs c t u) σ M=(pB (pe gl P c σ M)).bind λp=>if p.1=true then pxs gl P C t σ p.2 else pxs gl P C u σ p.2:=Eq.trans rfl rfl
@[simp] theorem qEd(g:Tg)(it:Itr):px gl P C (.for_ g it t) σ M=(pei gl P it σ M).bind λp=>zf p.1.2 g (pxs gl P C t) p.1.1 σ p.2:=Eq.trans rfl rfl
theorem zm:ptw gl P .nil σ M=.ok ([],M):=Eq.trans rfl rfl
theorem zQ(a:E)(as:Es):ptw gl P (.cons a as) σ M=(pe gl P a σ M).bind λp=>if p.1.2=true then (ptw gl P as σ (p.2++(thaw p.2.length p.1.1).2)).bind λq=>.ok ((thaw p.2.length p.1.1).1::q.1,q.2) else (ptw gl P as σ p.2).bind λq=>.ok (p.1.1::q.1,q.2):=Eq.trans rfl rfl
theorem V9(as:Es):px gl P C (.rett as) σ M=(ptw gl P as σ M).bind λq=>if q.1.length<=lim then .ok (.rt (.tup q.1,false),q.2) else .stuck:=Eq.trans rfl rfl
theorem ZO(f ns:Nat)(b:Ss)(as:Es):px gl P C (.inl f ns b as) σ M=(ptw gl P as σ M).bind λq=>if q.1.length<=ns then (pxs gl P C b (q.1.map some++List.replicate (ns-q.1.length) none) q.2).nx.bind λp=>(match p.1 with | .nx _=>.ok (.rt (.v .non,true),p.2) | .rt t=>.ok (.rt t,p.2)|_=>.stuck) else .stuck:=Eq.trans rfl rfl
@[simp] theorem qDZ:px gl P C .stop σ M=.stuck:=Eq.trans rfl rfl
@[simp] theorem qC1:pxs gl P C .nil σ M=.ok (.nx σ,M):=Eq.trans rfl rfl
@[simp] theorem Y0:pxs gl P C (.cons s r) σ M=(px gl P C s σ M).bind λp=>match p.1 with
  | .nx σ1=>pxs gl P C r σ1 p.2
  |o=>.ok (o,p.2):=Eq.trans rfl rfl
@[simp] theorem qFm(x:Bool):pB (.ok (bT x,M))=.ok (x,M):=Eq.trans rfl rfl
@[simp] theorem qGR(x f:Bool):pB (.ok ((T.v (.bl x),f),M))=.ok (x,M):=Eq.trans rfl rfl
@[simp] theorem qCf:pB .stuck=.stuck:=Eq.trans rfl rfl
@[simp] theorem qCe{α β:Type}(c:Nat)(M:Mem)(f:α->PR β):(PR.exc c M:PR α).bind f=.exc c M:=Eq.trans rfl rfl
end
@[simp] theorem qGY(x:V):T.lf (.v x)=true:=by rw[T.lf]
@[simp] theorem V6(n:Nat):T.lf (.cell n)=false:=by rw[T.lf]<;>simp
@[simp] theorem qD6(xs:List T):T.lf (.lst xs)=false:=by rw[T.lf]<;>simp
@[simp] theorem qER(xs:List T):T.lf (.tup xs)=T.lfs xs:=by rw[T.lf]
@[simp] theorem qCz:T.lfs []=true:=by rw[T.lfs]
@[simp] theorem QM(x:T)(xs:List T):T.lfs (x::xs)=(x.lf&&T.lfs xs):=by rw[T.lfs]
@[simp] theorem iT1(i:Int):(iT i).1=.v (.int i):=rfl
@[simp] theorem iT2(i:Int):(iT i).2=true:=rfl
@[simp] theorem bT1(i:Bool):(bT i).1=.v (.bl i):=rfl
@[simp] theorem bT2(i:Bool):(bT i).2=true:=rfl
@[simp] theorem lT1(xs:List T):(lT xs).1=.lst xs:=rfl
@[simp] theorem lT2(xs:List T):(lT xs).2=T.lfs xs:=rfl
@[simp] theorem qFn(x:V):T.isV (.v x)=some x:=rfl
@[simp] theorem qDd(x:List T):T.isV (.lst x)=none:=rfl
@[simp] theorem qDa(x:List T):T.isV (.tup x)=none:=rfl
@[simp] theorem qCh(x:Nat):T.isV (.cell x)=none:=rfl
section
variable{M:Mem}(i j:Int) (xs ys:List T)
@[simp] theorem qEB:qk M .add (.v (.int i)) (.v (.int j))=some (iT (i+j)):=rfl
@[simp] theorem qBf:qk M .sub (.v (.int i)) (.v (.int j))=some (iT (i-j)):=rfl
@[simp] theorem u9:qk M .band (.v (.int i)) (.v (.int j))=some (iT (PySem.Builtin.bitAnd i j)):=rfl
theorem qA6{i j:Int}(h:(-18446744073709551616<i/\i<18446744073709551616)\/(-18446744073709551616<j/\j<18446744073709551616)):qk M .mul (.v (.int i)) (.v (.int j))=some (iT (i*j)):=by
 show (if (QH i||QH j||(mid i&&mid j))=true then _ else _)=_;rw[if_pos];rcases h with h|h
 ·have:QH i=true:=by unfold QH two64;exact vX h
  rw[this];rfl
 ·have:QH j=true:=by unfold QH two64;exact vX h
  rw[this,Bool.or_true];rfl
theorem qAP{i j:Int}(h:0<j/\j<1073741824):qk M .fdiv (.v (.int i)) (.v (.int j))=some (iT (i / j)):=by
 show (if 0<j/\(j<1073741824\/mid j=true) then _ else _)=_;rw[if_pos ⟨h.1,.inl h.2⟩]
theorem qCJ{i j:Int}(h:0<j):qk M .mod (.v (.int i)) (.v (.int j))=some (iT (i % j)):=by
 show (if 0<j then _ else _)=_;rw[if_pos h]
theorem qBP{i j:Int}(h:0<=j/\j<=1000/\i.natAbs<18446744073709551616):qk M .pow (.v (.int i)) (.v (.int j))=some (iT (i ^ j.toNat)):=by
 show (if 0<=j/\j<=1000/\i.natAbs<18446744073709551616 then _ else _)=_;rw[if_pos h]
theorem T9{xs ys:List T}(h:xs.length+ys.length<=lim):qk M .add (.lst xs) (.lst ys)=some (lT (xs++ys)):=by
 show (if xs.length+ys.length<=lim then _ else _)=_;rw[if_pos h]
@[simp] theorem qDs:qo M .lt (.v (.int i)) (.v (.int j))=some (decide (i<j)):=rfl
@[simp] theorem qCv:qo M .le (.v (.int i)) (.v (.int j))=some (decide (i<=j)):=rfl
@[simp] theorem qDn:qo M .gt (.v (.int i)) (.v (.int j))=some (decide (j<i)):=rfl
@[simp] theorem qDp:qo M .ge (.v (.int i)) (.v (.int j))=some (decide (j<=i)):=rfl
@[simp] theorem qDO:qo M .eq (.v (.int i)) (.v (.int j))=some (decide (i=j)):=by
 show some (i==j)=_;congr 1
@[simp] theorem qEa:zi M .list [.lst xs]=some (lT xs):=rfl
@[simp] theorem qEj:zi M .list [.tup xs]=some (lT xs):=rfl
@[simp] theorem j4:zi M .max [.v (.int i),.v (.int j)]=some (iT (if j>i then j else i)):=rfl
@[simp] theorem qCI:zi M .min [.v (.int i),.v (.int j)]=some (iT (if j<i then j else i)):=rfl
@[simp] theorem qFZ:zi M .int [.v (.int i)]=some (iT i):=rfl
@[simp] theorem qGI:zN M (.v (.int i))=some "int":=rfl
@[simp] theorem qGV(b:Bool):zN M (.v (.bl b))=some "bool":=rfl
@[simp] theorem qGX:zN M (.lst xs)=some "list":=rfl
@[simp] theorem qGW:zN M (.tup xs)=some "tuple":=rfl
@[simp] theorem qGL(kvs:List (Int×V)):zN M (.ob (.dct kvs))=some "dict":=rfl
@[simp] theorem qGN:zN M (.v .non)=some "NoneType":=rfl
@[simp] theorem qEN:L0 M (.lst xs)=some (xs,[]):=rfl
@[simp] theorem qEF:L0 M (.tup xs)=some (xs,[]):=rfl
@[simp] theorem qEb:L0 M (.fz xs)=some (xs,[]):=rfl
@[simp] theorem qEC:W8 M (.lst xs)=some (xs,[]):=rfl
end
@[simp] theorem lk0{α:Type}(x0:α)(l:List α):(x0::l)[0]?=some x0:=rfl
@[simp] theorem st0{α:Type}(x0 y:α)(l:List α):(x0::l).set 0 y=y::l:=rfl
@[simp] theorem lk1{α:Type}(x0 x1:α)(l:List α):(x0::x1::l)[1]?=some x1:=rfl
@[simp] theorem st1{α:Type}(x0 x1 y:α)(l:List α):(x0::x1::l).set 1 y=x0::y::l:=rfl
@[simp] theorem lk2{α:Type}(x0 x1 x2:α)(l:List α):(x0::x1::x2::l)[2]?=some x2:=rfl
@[simp] theorem st2{α:Type}(x0 x1 x2 y:α)(l:List α):(x0::x1::x2::l).set 2 y=x0::x1::y::l:=rfl
@[simp] theorem lk3{α:Type}(x0 x1 x2 x3:α)(l:List α):(x0::x1::x2::x3::l)[3]?=some x3:=rfl
@[simp] theorem st3{α:Type}(x0 x1 x2 x3 y:α)(l:List α):(x0::x1::x2::x3::l).set 3 y=x0::x1::x2::y::l:=rfl
@[simp] theorem lk4{α:Type}(x0 x1 x2 x3 x4:α)(l:List α):(x0::x1::x2::x3::x4::l)[4]?=some x4:=rfl
@[simp] theorem st4{α:Type}(x0 x1 x2 x3 x4 y:α)(l:List α):(x0::x1::x2::x3::x4::l).set 4 y=x0::x1::x2::x3::y::l:=rfl
@[simp] theorem lk5{α:Type}(x0 x1 x2 x3 x4 x5:α)(l:List α):(x0::x1::x2::x3::x4::x5::l)[5]?=some x5:=rfl
@[simp] theorem st5{α:Type}(x0 x1 x2 x3 x4 x5 y:α)(l:List α):(x0::x1::x2::x3::x4::x5::l).set 5 y=x0::x1::x2::x3::x4::y::l:=rfl
@[simp] theorem lk6{α:Type}(x0 x1 x2 x3 x4 x5 x6:α)(l:List α):(x0::x1::x2::x3::x4::x5::x6::l)[6]?=some x6:=rfl
@[simp] theorem st6{α:Type}(x0 x1 x2 x3 x4 x5 x6 y:α)(l:List α):(x0::x1::x2::x3::x4::x5::x6::l).set 6 y=x0::x1::x2::x3::x4::x5::y::l:=rfl
@[simp] theorem lk7{α:Type}(x0 x1 x2 x3 x4 x5 x6 x7:α)(l:List α):(x0::x1::x2::x3::x4::x5::x6::x7::l)[7]?=some x7:=rfl
@[simp] theorem st7{α:Type}(x0 x1 x2 x3 x4 x5 x6 x7 y:α)(l:List α):(x0::x1::x2::x3::x4::x5::x6::x7::l).set 7 y=x0::x1::x2::x3::x4::x5::x6::y::l:=rfl
@[simp] theorem lk8{α:Type}(x0 x1 x2 x3 x4 x5 x6 x7 x8:α)(l:List α):(x0::x1::x2::x3::x4::x5::x6::x7::x8::l)[8]?=some x8:=rfl
@[simp] theorem st8{α:Type}(x0 x1 x2 x3 x4 x5 x6 x7 x8 y:α)(l:List α):(x0::x1::x2::x3::x4::x5::x6::x7::x8::l).set 8 y=x0::x1::x2::x3::x4::x5::x6::x7::y::l:=rfl
@[simp] theorem lk9{α:Type}(x0 x1 x2 x3 x4 x5 x6 x7 x8 x9:α)(l:List α):(x0::x1::x2::x3::x4::x5::x6::x7::x8::x9::l)[9]?=some x9:=rfl
@[simp] theorem st9{α:Type}(x0 x1 x2 x3 x4 x5 x6 x7 x8 x9 y:α)(l:List α):(x0::x1::x2::x3::x4::x5::x6::x7::x8::x9::l).set 9 y=x0::x1::x2::x3::x4::x5::x6::x7::x8::y::l:=rfl
@[simp] theorem qGB{α:Type}(x0 x1 x2 x3 x4 x5 x6 x7 x8 x9 x10:α)(l:List α):(x0::x1::x2::x3::x4::x5::x6::x7::x8::x9::x10::l)[10]?=some x10:=rfl
@[simp] theorem qGM{α:Type}(x0 x1 x2 x3 x4 x5 x6 x7 x8 x9 x10 y:α)(l:List α):(x0::x1::x2::x3::x4::x5::x6::x7::x8::x9::x10::l).set 10 y=x0::x1::x2::x3::x4::x5::x6::x7::x8::x9::y::l:=rfl
@[simp] theorem qGE{α:Type}(x0 x1 x2 x3 x4 x5 x6 x7 x8 x9 x10 x11:α)(l:List α):(x0::x1::x2::x3::x4::x5::x6::x7::x8::x9::x10::x11::l)[11]?=some x11:=rfl
@[simp] theorem qGD{α:Type}(x0 x1 x2 x3 x4 x5 x6 x7 x8 x9 x10 x11 y:α)(l:List α):(x0::x1::x2::x3::x4::x5::x6::x7::x8::x9::x10::x11::l).set 11 y=x0::x1::x2::x3::x4::x5::x6::x7::x8::x9::x10::y::l:=rfl
@[simp] theorem qGF{α:Type}(x0 x1 x2 x3 x4 x5 x6 x7 x8 x9 x10 x11 x12:α)(l:List α):(x0::x1::x2::x3::x4::x5::x6::x7::x8::x9::x10::x11::x12::l)[12]?=some x12:=rfl
@[simp] theorem qGG{α:Type}(x0 x1 x2 x3 x4 x5 x6 x7 x8 x9 x10 x11 x12 y:α)(l:List α):(x0::x1::x2::x3::x4::x5::x6::x7::x8::x9::x10::x11::x12::l).set 12 y=x0::x1::x2::x3::x4::x5::x6::x7::x8::x9::x10::x11::y::l:=rfl
@[simp] theorem qGO{α:Type}(x0 x1 x2 x3 x4 x5 x6 x7 x8 x9 x10 x11 x12 x13:α)(l:List α):(x0::x1::x2::x3::x4::x5::x6::x7::x8::x9::x10::x11::x12::x13::l)[13]?=some x13:=rfl
@[simp] theorem qGS{α:Type}(x0 x1 x2 x3 x4 x5 x6 x7 x8 x9 x10 x11 x12 x13 y:α)(l:List α):(x0::x1::x2::x3::x4::x5::x6::x7::x8::x9::x10::x11::x12::x13::l).set 13 y=x0::x1::x2::x3::x4::x5::x6::x7::x8::x9::x10::x11::x12::y::l:=rfl
@[simp] theorem qGP{α:Type}(x0 x1 x2 x3 x4 x5 x6 x7 x8 x9 x10 x11 x12 x13 x14:α)(l:List α):(x0::x1::x2::x3::x4::x5::x6::x7::x8::x9::x10::x11::x12::x13::x14::l)[14]?=some x14:=rfl
@[simp] theorem qGQ{α:Type}(x0 x1 x2 x3 x4 x5 x6 x7 x8 x9 x10 x11 x12 x13 x14 y:α)(l:List α):(x0::x1::x2::x3::x4::x5::x6::x7::x8::x9::x10::x11::x12::x13::x14::l).set 14 y=x0::x1::x2::x3::x4::x5::x6::x7::x8::x9::x10::x11::x12::x13::y::l:=rfl
@[simp] theorem qGH{α:Type}(x0 x1 x2 x3 x4 x5 x6 x7 x8 x9 x10 x11 x12 x13 x14 x15:α)(l:List α):(x0::x1::x2::x3::x4::x5::x6::x7::x8::x9::x10::x11::x12::x13::x14::x15::l)[15]?=some x15:=rfl
@[simp] theorem qGK{α:Type}(x0 x1 x2 x3 x4 x5 x6 x7 x8 x9 x10 x11 x12 x13 x14 x15 y:α)(l:List α):(x0::x1::x2::x3::x4::x5::x6::x7::x8::x9::x10::x11::x12::x13::x14::x15::l).set 15 y=x0::x1::x2::x3::x4::x5::x6::x7::x8::x9::x10::x11::x12::x13::x14::y::l:=rfl
theorem qJ{gl:List T}{tb:List Fn}{Cs:List (List Nat)}{k f:Nat}{vs:List T}{M:Mem}{np ns:Nat}{b:Ss}(ht:tb[f]?=some ⟨np,ns,b⟩)(hl:vs.length=np/\np<=ns)(hk:1<=k):
  Pk gl tb Cs k f vs M=JM M.length (pxs gl (Pk gl tb Cs (k-1)) (Cs.getD f []) b (vs.map some++List.replicate (ns-np) none) M):=by
 obtain⟨k,rfl⟩:∃j,k=j+1:=⟨k-1,by omega⟩
 rw[Pk,ht];dsimp only;rw[if_pos hl];rfl
theorem qA{M M1:Mem}{t:TB}(h:M1.length=M.length):JM M.length (.ok (.rt t,M1))=.ok (t,M1):=by
 show finish M.length t M1=_;unfold finish;rw[if_pos h]
theorem Ze{M M1:Mem}{σ:TS}(h:M1.length=M.length):JM M.length (.ok (.nx σ,M1))=.ok ((.v .non,true),M1):=by
 show finish M.length _ M1=_;unfold finish;rw[if_pos h]
noncomputable def N(n:Nat):T:=.v (.int (n:Int))
noncomputable def NL(L:List Nat):T:=.lst (L.map N)
theorem N3(n:Nat):qf 0 n=(List.range n).map N:=by
 unfold qf N;simp
theorem QF(L:List Nat):T.lfs (L.map N)=true:=by
 induction L with
 |nil=>rfl
 |cons x L ih=>rw[List.map_cons,QM,ih];rfl
theorem qEz(n:Nat):(N n).lf=true:=by unfold N;rfl
theorem Je:∀L:List Nat,jQ (L.map N)=some (L.map λ(n:Nat)=>V.int (n:Int))
 | []=>rfl
 |x::L=>by
  show (jQ (L.map N)).map _=_;rw[Je L];rfl
theorem W7{M:Mem}(n:Nat)(L:List Nat):qo M .inn (N n) (NL L)=some (decide (n∈L)):=by
 show ((jQ (L.map N)).map λxs=>xs.any λz=>L2.eqV z (.int (n:Int)))=_;rw[Je,Option.map_some,List.any_map];congr 1;rw[wN];simp only[List.any_eq_true,Function.comp,vY];constructor
 ·rintro⟨x,hx,e⟩;have:x=n:=by
   have e':((x:Int)==(n:Int))=true:=e;rw[beq_iff_eq]at e';omega
  rwa [<-this]
 ·intro h;refine⟨n,h,?_⟩;show ((n:Int)==(n:Int))=true;rw[vb]
theorem JC{M:Mem}(n:Nat)(L:List Nat):qo M .notin (N n) (NL L)=some (!decide (n∈L)):=by
 have:=W7 (M:=M) n L;show (inT M (N n) (NL L)).map (!·)=_;rw[show inT M (N n) (NL L)=some (decide (n∈L)) from this];rfl
theorem J5{M:Mem}{d:Nat}:∀(L K:List Nat),L.length=K.length->zh (eqT M d) (L.map N) (K.map N)=some (List.zipWith (λ(a b:Nat)=>decide (a=b)) L K)
 | [],[],_=>rfl
 | [],_::_,h=>by simp at h
 |_::_,[],h=>by simp at h
 |a::L,b::K,h=>by
  have e:eqT M d (N a) (N b)=some (decide (a=b)):=by
   have:eqF (.int (a:Int)) (.int (b:Int))=some (decide (a=b)):=by
    show some ((a:Int)==(b:Int))=_;congr 1;rw[wN,beq_iff_eq,vY];omega
   cases d<;>(unfold eqT;exact this)
  rw[List.map_cons,List.map_cons,zh,e,J5 L K (by simpa using h)];rfl
theorem U8:∀(L K:List Nat),L.length=K.length->((List.zipWith (λ(a b:Nat)=>decide (a=b)) L K).all id=decide (L=K))
 | [],[],_=>rfl
 | [],_::_,h=>by simp at h
 |_::_,[],h=>by simp at h
 |a::L,b::K,h=>by
  rw[List.zipWith_cons_cons,List.all_cons,U8 L K (by simpa using h)];by_cases h1:a=b<;>by_cases h2:L=K<;>simp[h1,h2]
theorem qCA{M:Mem}{d:Nat}(L K:List Nat):eqT M (d+1) (NL L) (NL K)=some (decide (L=K)):=by
 unfold eqT;show (if (L.map N).length=(K.map N).length then (zh (eqT M d) (L.map N) (K.map N)).map (λbs=>bs.all id) else some false)=_;rw[wR,wR];by_cases h:L.length=K.length
 ·rw[if_pos h,J5 L K h,Option.map_some,U8 L K h]
 ·rw[if_neg h];congr 1;symm;exact vW (λe=>h (by rw[e]))
theorem qCa{M:Mem}(L:List Nat):zi M .list [NL L]=some (NL L,true):=by
 show some (T.lst (L.map N),T.lfs (L.map N))=_;rw[QF];rfl
theorem R9{M:Mem}{L K:List Nat}(h:L.length+K.length<=lim):qk M .add (NL L) (NL K)=some (NL (L++K),true):=by
 unfold NL;rw[T9 (by simpa using h)];show some (T.lst (L.map N++K.map N),T.lfs (L.map N++K.map N))=_;rw[<-wT,QF]
@[simp] theorem qBx{d:QC}{g:Tg}{b:TS->Mem->RSt}{σ:TS}{M:Mem}:zf d g b [] σ M=.ok (.nx σ,M):=rfl
@[simp] theorem zv{i:Nat}{b:TS->Mem->RSt}{x:T}{r:List T}{σ:TS}{M:Mem}:zf [] (.name i) b (x::r) σ M=(b (σ.set i (some x)) M).bind λp=>match p.1 with
   | .nx σ2=>zf [] (.name i) b r σ2 p.2
   | .ct σ2=>zf [] (.name i) b r σ2 p.2
   | .bk σ2=>.ok (.nx σ2,p.2)
   | .rt t=>.ok (.rt t,p.2):=rfl
theorem Qi{c:TS->Mem->PR (Bool×Mem)}{e:TS->Mem->PR (TB×Mem)}{M:Mem}{σ:TS}(p:Nat->Bool)(f:Nat->T)(fr:Nat->Bool):∀(its:List Nat) (ys:List T) (b:Bool) (o:Option T),ys.length+its.length<=lim ->
  (∀x∈its,c (some (N x)::σ) M=.ok (p x,M))->(∀x∈its,p x=true->e (some (N x)::σ) M=.ok ((f x,fr x),M)) ->
  qb [] (.name 0) c e (its.map N) ys b (o::σ) M=.ok ((.lst (ys++(its.filter p).map f),b&&(its.filter p).all fr),M)
 | [],ys,b,o,hl,hc,he=>by simp[qb]
 |x::r,ys,b,o,hl,hc,he=>by
  rw[List.map_cons];unfold qb;rw[show zR (.name 0) (N x) (o::σ)=some (some (N x)::σ) from rfl];dsimp only;rw[hc x (List.mem_cons_self ..)];rw[PR.bind_ok];dsimp only;cases hp:p x with
  |true=>
   rw[if_pos rfl,he x (List.mem_cons_self ..) hp,PR.bind_ok];dsimp only;rw[if_pos ⟨by simp at hl;omega,rfl⟩];rw[Qi p f fr r (ys++[f x]) (b&&fr x) (some (N x)) (by simp at hl ⊢;omega) (λy hy=>hc y (List.mem_cons_of_mem _ hy)) (λy hy=>he y (List.mem_cons_of_mem _ hy))];rw[List.filter_cons_of_pos hp];simp[Bool.and_assoc]
  |false=>
   rw[if_neg (by decide),if_pos (show qY [] M=true from rfl)];rw[Qi p f fr r ys b (some (N x)) (by simp at hl ⊢;omega) (λy hy=>hc y (List.mem_cons_of_mem _ hy)) (λy hy=>he y (List.mem_cons_of_mem _ hy))];rw[wS (by rw[hp];decide)]
theorem jR{c:TS->Mem->PR (Bool×Mem)}{e:TS->Mem->PR (TB×Mem)}{M:Mem}{σ:TS}{o:Option T}{its:List Nat}(p:Nat->Bool)(g:Nat->Nat)(hl:its.length<=lim)
  (hc:∀x∈its,c (some (N x)::σ) M=.ok (p x,M)) (he:∀x∈its,p x=true->e (some (N x)::σ) M=.ok ((N (g x),true),M)):
  qb [] (.name 0) c e (its.map N) [] true (o::σ) M=.ok ((NL ((its.filter p).map g),true),M):=by
 rw[Qi p (λx=>N (g x)) (λ_=>true) its [] true o (by simpa using hl) hc he];unfold NL;simp
 all_goals rfl
@[simp] theorem qB0{M:Mem}(a b:Nat):qk M .add (N a) (N b)=some (N (a+b),true):=by unfold N;simp[iT]
theorem JA(L:List Nat):T.lf (NL L)=false:=by unfold NL;simp
noncomputable def nE(n:Nat):E:=.cst (.int (n:Int))
@[simp] theorem qGA{gl:List T}{P:Nat->List T->Mem->PR (TB×Mem)}{σ:TS}{M:Mem}(n:Nat):pe gl P (nE n) σ M=.ok ((N n,true),M):=by unfold nE;rw[pe_int];rfl
section
variable{M:Mem}(a b:Nat) (xs:List T)
@[simp] theorem lfN:(N a).lf=true:=qEz a
@[simp] theorem qFc:(N a).isV=some (.int (a:Int)):=rfl
@[simp] theorem qGT:zN M (N a)=some "int":=rfl
@[simp] theorem qFe(L:List Nat):zN M (NL L)=some "list":=rfl
theorem i6{a b:Nat}(h:b<=a):qk M .sub (N a) (N b)=some (N (a-b),true):=by
 unfold N;rw[qBf];unfold iT;rw[Int.ofNat_sub h]
theorem ZU{a b:Nat}(h:a<18446744073709551616\/b<18446744073709551616):qk M .mul (N a) (N b)=some (N (a*b),true):=by
 unfold N;rw[qA6 (by omega)];unfold iT;simp
theorem Qw{a b:Nat}(h:0<b/\b<1073741824):qk M .fdiv (N a) (N b)=some (N (a / b),true):=by
 unfold N;rw[qAP (by omega)];unfold iT;simp
theorem jW{a b:Nat}(h:0<b):qk M .mod (N a) (N b)=some (N (a % b),true):=by
 unfold N;rw[qCJ (by omega)];unfold iT;simp
theorem l8{a b:Nat}(h:b<=1000/\a<1000000):qk M .pow (N a) (N b)=some (N (a ^ b),true):=by
 unfold N;rw[qBP (by omega)];unfold iT;simp
@[simp] theorem J9:qo M .lt (N a) (N b)=some (decide (a<b)):=by unfold N;rw[qDs];simp
@[simp] theorem qFM:qo M .le (N a) (N b)=some (decide (a<=b)):=by unfold N;rw[qCv];simp
@[simp] theorem qDf:qo M .gt (N a) (N b)=some (decide (b<a)):=by unfold N;rw[qDn];simp
@[simp] theorem qFq:qo M .ge (N a) (N b)=some (decide (b<=a)):=by unfold N;rw[qDp];simp
@[simp] theorem qAr:qo M .eq (N a) (N b)=some (decide (a=b)):=by unfold N;rw[qDO];congr 1;rw[wN,vY,vY];omega
@[simp] theorem qFQ:qo M .ne (N a) (N b)=some (!decide (a=b)):=by
 show ((eqT M 4 (N a) (N b)).map (!·))=_;rw[show eqT M 4 (N a) (N b)=some (decide (a=b)) from qAr (M:=M) a b];rfl
@[simp] theorem C5:JF M (.lst xs) (N a)=(xs[a]?).map λt=>(t,t.lf):=by
 show ((L2.ixN xs.length (a:Int)).bind λj=>(xs[j]?).map λt=>(t,t.lf))=_;unfold L2.ixN;rw[if_pos (by omega)];split
 ·simp
 ·rw[wx (by omega)];rfl
@[simp] theorem qEx:JF M (.tup xs) (N a)=(xs[a]?).map λt=>(t,t.lf):=by
 show ((L2.ixN xs.length (a:Int)).bind λj=>(xs[j]?).map λt=>(t,t.lf))=_;unfold L2.ixN;rw[if_pos (by omega)];split
 ·simp
 ·rw[wx (by omega)];rfl
@[simp] theorem qEk:zi M .len [.lst xs]=some (N xs.length,true):=rfl
@[simp] theorem qEp:zi M .len [.tup xs]=some (N xs.length,true):=rfl
@[simp] theorem qEe:zi M .len [.fz xs]=some (N xs.length,true):=rfl
@[simp] theorem qD7:zi M .max [N a,N b]=some (N (max a b),true):=by
 unfold N;rw[j4];unfold iT;congr 4;split<;>omega
@[simp] theorem qES:zi M .min [N a,N b]=some (N (min a b),true):=by
 unfold N;rw[qCI];unfold iT;congr 4;split<;>omega
@[simp] theorem qFb:zi M .int [N a]=some (N a,true):=rfl
@[simp] theorem qEU(t:Bool):zi M .int [.v (.bl t)]=some (N t.toNat,true):=by cases t<;>rfl
@[simp] theorem qD8:zi M .bits [N a]=some (N (PySem.Builtin.Int.intBits (a:Int)),true):=rfl
theorem Jw:qk M .band (N a) (N b)=some (N (a&&& b),true):=by
 unfold N;rw[u9];unfold iT;rfl
end
theorem zP{n:Nat}(hn:n<=1000000):qCo (N n)=some ((List.range n).map N):=by
 show (if -1000000<=(n:Int)/\(n:Int)<=1000000 then some (qf 0 (n:Int).toNat) else none)=_;rw[if_pos (by omega),wy,N3]
theorem y6{n:Nat}(hn:n<=100000):z0 (N n)=some ((List.range n).map N):=by
 show (if -1000000<=(n:Int)/\(n:Int)<=100000 then some (qf 0 (n:Int).toNat) else none)=_;rw[if_pos (by omega),wy,N3]
theorem V1{a b:Nat}(hn:a<=b/\b<=1000000):qAY (N a) (N b)=some ((List.range' a (b-a)).map N):=by
 show (if _ then some (qf (a:Int) ((b:Int)-(a:Int)).toNat) else none)=_;rw[if_pos (by omega),show ((b:Int)-(a:Int)).toNat=b-a by omega];unfold qf;rw[List.range'_eq_map_range,wa];congr 1
theorem V2{M:Mem}{n:Nat}{xs:List T}{x:T}(h:M[n]?=some xs)(hl:xs.length<lim):g4 M n x=some (M.set n (xs++[x])):=by
 unfold g4;rw[h];show (if xs.length<lim then _ else _)=_;rw[if_pos hl]
@[simp] theorem qA2(n a:Nat):thaw n (N a)=(N a,[]):=by unfold N;simp[thaw]
@[simp] theorem qEq{M:Mem}(L:List Nat):L0 M (NL L)=some (L.map N,[]):=rfl
@[simp] theorem qEn{M:Mem}(x f:Bool):pB (PR.ok ((T.v (V.bl x),f),M))=.ok (x,M):=Eq.trans rfl rfl
theorem qd{α:Type}:∀l:List α,l.filter (λ_=>true)=l
 | []=>rfl
 |x::l=>by rw[List.filter_cons_of_pos rfl,qd l]
theorem u7{gl:List T}{P:Nat->List T->Mem->PR (TB×Mem)}{e:TS->Mem->PR (TB×Mem)}{M:Mem}{σ:TS}{o:Option T}{its:List Nat}(g:Nat->Nat)(hl:its.length<=lim)
  (he:∀x∈its,e (some (N x)::σ) M=.ok ((N (g x),true),M)):qb [] (.name 0) (pec gl P .nil) e (its.map N) [] true (o::σ) M=.ok ((NL (its.map g),true),M):=
 (jR (λ_=>true) g hl (λx _=>by simp) (λx hx _=>he x hx)).trans (by rw[qd])
@[simp] theorem qFD{M:Mem}{n j:Nat}{x:T}:qDX M (.cell n) (N j) x=(M[n]?).bind λxs=>if j<xs.length then some (M.set n (xs.set j x)) else none:=by
 show ((M[n]?).bind λxs=>(L2.ixN xs.length (j:Int)).map λj=>M.set n (xs.set j x))=_;congr 1
 funext xs
 unfold L2.ixN;rw[if_pos (by omega)];by_cases h:j<xs.length
 ·rw[if_pos (by omega),if_pos h];simp
 ·rw[if_neg (by omega),if_neg h];rfl
@[simp] theorem qFE{M:Mem}{n a:Nat}:JF M (.cell n) (N a)=(M[n]?).bind λxs=>(xs[a]?).map λt=>(t,t.lf):=by
 show ((M[n]?).bind λxs=>(L2.ixN xs.length (a:Int)).bind λj=>(xs[j]?).map λt=>(t,t.lf))=_;congr 1
 funext xs
 exact C5 (M:=M) a xs
@[simp] theorem qEL(a:Nat):qCi (N a)=some (iT (-(a:Int))):=rfl
@[simp] theorem qEZ(a:Int):qCi (.v (.int a))=some (iT (-a)):=rfl
@[simp] theorem qFx(a:Nat):za [N a]=some [(a:Int)]:=rfl
@[simp] theorem qFT:za []=some []:=rfl
@[simp] theorem qFr{M:Mem}(xs:List T):T.its M (.lst xs)=some xs:=rfl
@[simp] theorem qFa{M:Mem}(xs:List T):T.its M (.fz xs)=some xs:=rfl
@[simp] theorem qE6{M:Mem}(xs:List T):T.its M (.tup xs)=some xs:=rfl
@[simp] theorem qFP{M:Mem}(L:List Nat):T.its M (NL L)=some (L.map N):=rfl
@[simp] theorem qEO(ys xs:List T)(lo hi:Option Int):Z7 (.lst ys) xs lo hi=some (lT (QB xs lo hi)):=rfl
@[simp] theorem qEf(ys xs:List T)(lo hi:Option Int):Z7 (.fz ys) xs lo hi=some (lT (QB xs lo hi)):=rfl
@[simp] theorem qD4(L:List Nat)(xs:List T)(lo hi:Option Int):Z7 (NL L) xs lo hi=some (lT (QB xs lo hi)):=rfl
@[simp] theorem qEh(n:Nat)(xs:List T)(lo hi:Option Int):Z7 (.cell n) xs lo hi=some (lT (QB xs lo hi)):=rfl
@[simp] theorem qF9{M:Mem}(xs:List T):T.lis M (.lst xs)=some xs:=rfl
@[simp] theorem qFd{M:Mem}(xs:List T):T.lis M (.fz xs)=some xs:=rfl
@[simp] theorem qFW{M:Mem}(L:List Nat):T.lis M (NL L)=some (L.map N):=rfl
theorem qAc(xs:List T)(k:Nat):QB xs (some (k:Int)) (some ((k+1:Nat):Int))=(xs.drop k).take 1:=by
 unfold QB;rw[HT.sIx_nat,HT.sIx_nat];by_cases h:k<xs.length
 ·rw[vO (by omega),vO (by omega),show k+1-k=1 by omega]
 ·rw[Nat.min_eq_right (by omega),Nat.min_eq_right (by omega),List.drop_eq_nil_of_le (Nat.le_refl _),List.drop_eq_nil_of_le (by omega)];simp
theorem A8{c:TS->Mem->PR (Bool×Mem)}{e:TS->Mem->PR (TB×Mem)}{σ:TS}{I:Mem->Prop}{R:Nat->Bool->Prop}:∀(its ys:List Nat) (b:Bool) (o:Option T) (M:Mem),its.Nodup->ys.length+its.length<=lim->I M ->
  (∀x∈its,∀M,I M->∃t M',c (some (N x)::σ) M=.ok (t,M')/\I M'/\R x t)->(∀x∈its,∀M,I M->e (some (N x)::σ) M=.ok ((N x,true),M)) ->
  ∃q M',qb [] (.name 0) c e (its.map N) (ys.map N) b (o::σ) M=.ok ((NL (ys++its.filter q),b),M')/\I M'/\∀x∈its,R x (q x)
 | [],ys,b,o,M,nd,hl,hI,hc,he=>⟨λ_=>true,M,by simp[qb,NL],hI,λx hx=>by simp at hx⟩
 |x::r,ys,b,o,M,nd,hl,hI,hc,he=>by
  have ndr:=(List.nodup_cons.mp nd).2;have hx:=(List.nodup_cons.mp nd).1;obtain⟨t,M1,e1,i1,r1⟩:=hc x (List.mem_cons_self ..) M hI;rw[List.map_cons];unfold qb;rw[show zR (.name 0) (N x) (o::σ)=some (some (N x)::σ) from rfl];dsimp only;rw[e1,PR.bind_ok];dsimp only;have key:∀(q:Nat->Bool),(∀y∈r,R y (q y))->(r.filter (λy=>if y=x then t else q y)=r.filter q)/\∀y∈x::r,R y (if y=x then t else q y):=λq hq=>by
   constructor
   ·apply vF;intro y hy;rw[if_neg (by rintro rfl;exact hx hy)]
   ·intro y hy;rcases List.mem_cons.mp hy with h1|h1
    ·rw[if_pos h1,h1];exact r1
    ·rw[if_neg (by rintro rfl;exact hx h1)];exact hq y h1
  cases t with
  |true=>
   rw[if_pos rfl,he x (List.mem_cons_self ..) M1 i1,PR.bind_ok];dsimp only;rw[if_pos ⟨by simp at hl ⊢;omega,rfl⟩];obtain⟨q,M2,e2,i2,r2⟩:=A8 (I:=I) (R:=R) r (ys++[x]) b (some (N x)) M1 ndr (by simp at hl ⊢;omega) i1 (λy hy=>hc y (List.mem_cons_of_mem _ hy)) (λy hy=>he y (List.mem_cons_of_mem _ hy));obtain⟨k1,k2⟩:=key q r2;refine⟨λy=>if y=x then true else q y,M2,?_,i2,k2⟩;rw[show ys.map N++[N x]=(ys++[x]).map N by simp,Bool.and_true,e2,List.filter_cons_of_pos (by simp),k1];simp
  |false=>
   rw[if_neg (by decide),if_pos (show qY [] M1=true from rfl)];obtain⟨q,M2,e2,i2,r2⟩:=A8 (I:=I) (R:=R) r ys b (some (N x)) M1 ndr (by simp at hl ⊢;omega) i1 (λy hy=>hc y (List.mem_cons_of_mem _ hy)) (λy hy=>he y (List.mem_cons_of_mem _ hy));obtain⟨k1,k2⟩:=key q r2;refine⟨λy=>if y=x then false else q y,M2,?_,i2,k2⟩;rw[e2,wS (by simp),k1]
@[simp] theorem qCl(i j:Nat)(a b:T)(σ:TS):zR (.tup [i,j]) (.tup [a,b]) σ=some ((σ.set i (some a)).set j (some b)):=rfl
@[simp] theorem qAz(σ:TS):zu [] σ=[]:=rfl
@[simp] theorem qAp(r:List (Option Nat))(σ:TS):zu (none::r) σ=none::zu r σ:=rfl
@[simp] theorem qAJ(j:Nat)(r:List (Option Nat))(σ:TS):zu (some j::r) σ=(σ[j]?).join::zu r σ:=rfl
theorem S3(x:V)(f:Bool)(M1:Mem):∃b M2,JM ([]:Mem).length (.ok (.rt (.v x,f),M1))=.ok ((.v x,b),M2):=by
 show ∃b M2,finish 0 (.v x,f) M1=_;unfold finish;by_cases h:M1.length=0
 ·rw[if_pos h];exact⟨f,M1,rfl⟩
 ·rw[if_neg h,if_pos (by simp)];rw[show qH M1 0 6 (T.v x)=some (.v x) by unfold qH;rw[if_pos (by unfold T.und;rfl)]];exact⟨_,_,rfl⟩
mutual
theorem Z1:∀t:T,T.beq t t=true
 | .v x=>by unfold T.beq;simp
 | .cell x=>by unfold T.beq;simp
 | .ob x=>by unfold T.beq;simp
 | .fz xs=>by unfold T.beq;exact zn xs
 | .lst xs=>by unfold T.beq;exact zn xs
 | .tup xs=>by unfold T.beq;exact zn xs
theorem zn:∀ts:List T,T.beqs ts ts=true
 | []=>rfl
 |t::ts=>by unfold T.beqs;rw[Z1 t,zn ts];rfl
end
mutual
theorem Y1{a b:Nat}(h:a<=b):∀t:T,t.und a=true->t.und b=true
 | .v x,_=>rfl
 | .cell k,e=>by unfold T.und at e ⊢;simp at e ⊢;omega
 | .ob x,_=>rfl
 | .fz xs,e=>by unfold T.und at e ⊢;exact zV h xs e
 | .lst xs,e=>by unfold T.und at e ⊢;exact zV h xs e
 | .tup xs,e=>by unfold T.und at e ⊢;exact zV h xs e
theorem zV{a b:Nat}(h:a<=b):∀ts:List T,T.unds a ts=true->T.unds b ts=true
 | [],_=>rfl
 |t::ts,e=>by unfold T.unds at e ⊢;rw[Bool.and_eq_true]at e;rw[Y1 h t e.1,zV h ts e.2];rfl
end
def FlatM(M:Mem):Prop:=∀c∈M,T.unds 0 c=true
theorem FlatM.all{M:Mem}(h:FlatM M)(n:Nat):M.all (T.unds n)=true:=by
 rw[wL];exact λc hc=>zV (Nat.zero_le _) c (h c hc)
theorem FlatM.app{A B:Mem}(h:FlatM A)(k:FlatM B):FlatM (A++B):=λc hc=>by
 rcases wD.mp hc with z|z
 ·exact h c z
 ·exact k c z
theorem w9(n a:Nat):(N a).und n=true:=by unfold N T.und;rfl
theorem R8(n:Nat):∀L:List Nat,T.unds n (L.map N)=true
 | []=>rfl
 |x::L=>by rw[List.map_cons];unfold T.unds;rw[w9,R8 n L];rfl
theorem ZE{M:Mem}{n0 d:Nat}:∀L:List Nat,(L.map N).mapM (qH M n0 d)=some (L.map N)
 | []=>rfl
 |x::L=>by
  rw[List.map_cons,List.mapM_cons,ZE L];have:qH M n0 d (N x)=some (N x):=by cases d<;>(unfold qH;rw[if_pos (w9 _ _)])
  rw[this];rfl
theorem W2{M:Mem}{n0 d:Nat}:∀L:List Nat,(L.map N).mapM (zE M n0 d)=some (L.map λ_=>[])
 | []=>rfl
 |x::L=>by
  rw[List.map_cons,List.mapM_cons,W2 L];have:zE M n0 d (N x)=some []:=by cases d<;>(unfold zE;rw[if_pos (qEz _)])
  rw[this];rfl
theorem N5(L:List Nat):(L.map λ_=>([]:List Nat)).flatten=[]:=by
 induction L with
 |nil=>rfl
 |cons x L ih=>rw[List.map_cons,List.flatten_cons,ih];rfl
theorem Qt{d:QC}{c:TS->Mem->PR (Bool×Mem)}{e:TS->Mem->PR (TB×Mem)}{M:Mem}{σ:TS}(p:Nat->Bool)(f:Nat->T)(fr:Nat->Bool):∀(its:List Nat) (ys:List T) (b:Bool) (o:Option T),qY d M=true->ys.length+its.length<=lim ->
  (∀x∈its,c (some (N x)::σ) M=.ok (p x,M))->(∀x∈its,p x=true->e (some (N x)::σ) M=.ok ((f x,fr x),M)) ->
  qb d (.name 0) c e (its.map N) ys b (o::σ) M=.ok ((.lst (ys++(its.filter p).map f),b&&(its.filter p).all fr),M)
 | [],ys,b,o,hd,hl,hc,he=>by simp[qb]
 |x::r,ys,b,o,hd,hl,hc,he=>by
  rw[List.map_cons];unfold qb;rw[show zR (.name 0) (N x) (o::σ)=some (some (N x)::σ) from rfl];dsimp only;rw[hc x (List.mem_cons_self ..)];rw[PR.bind_ok];dsimp only;cases hp:p x with
  |true=>
   rw[if_pos rfl,he x (List.mem_cons_self ..) hp,PR.bind_ok];dsimp only;rw[if_pos ⟨by simp at hl;omega,hd⟩];rw[Qt p f fr r (ys++[f x]) (b&&fr x) (some (N x)) hd (by simp at hl ⊢;omega) (λy hy=>hc y (List.mem_cons_of_mem _ hy)) (λy hy=>he y (List.mem_cons_of_mem _ hy))];rw[List.filter_cons_of_pos hp];simp[Bool.and_assoc]
  |false=>
   rw[if_neg (by decide),if_pos hd];rw[Qt p f fr r ys b (some (N x)) hd (by simp at hl ⊢;omega) (λy hy=>hc y (List.mem_cons_of_mem _ hy)) (λy hy=>he y (List.mem_cons_of_mem _ hy))];rw[wS (by rw[hp];decide)]
theorem zA{d:QC}{c:TS->Mem->PR (Bool×Mem)}{e:TS->Mem->PR (TB×Mem)}{M:Mem}{σ:TS}{o:Option T}{its:List Nat}(p:Nat->Bool)(g:Nat->Nat)(hd:qY d M=true)(hl:its.length<=lim)
  (hc:∀x∈its,c (some (N x)::σ) M=.ok (p x,M)) (he:∀x∈its,p x=true->e (some (N x)::σ) M=.ok ((N (g x),true),M)):
  qb d (.name 0) c e (its.map N) [] true (o::σ) M=.ok ((NL ((its.filter p).map g),true),M):=by
 rw[Qt p (λx=>N (g x)) (λ_=>true) its [] true o hd (by simpa using hl) hc he];unfold NL;simp
 all_goals rfl
theorem S5(n:Nat):∀L:List Nat,jb n (L.map N)=(L.map N,[])
 | []=>by simp[jb]
 |x::L=>by
  rw[List.map_cons,jb,qA2];dsimp only;rw[List.length_nil,Nat.add_zero,S5 n L];rfl
@[simp] theorem Zj(n:Nat)(L:List Nat):thaw n (NL L)=(.cell n,[L.map N]):=by
 unfold NL;rw[thaw,S5];rfl
theorem i7{M:Mem}{n:Nat}{ts:List T}(h:M[n]?=some ts):qY [(n,ts)] M=true:=by
 unfold qY;simp[h,zn]
theorem E5{M:Mem}{n:Nat}{ts:List T}(h:M[n]?=some ts):L0 M (.cell n)=some (ts,[(n,ts)]):=by
 unfold L0;dsimp only;rw[h];rfl
theorem qEs{M:Mem}{n:Nat}{ts:List T}(h:M[n]?=some ts):zN M (.cell n)=some "list":=by
 unfold zN;dsimp only;rw[h];rfl
structure IsL(M:Mem)(t:T)(L:List Nat):Prop where
 its:t.its M=some (L.map N)
 lis:t.lis M=some (L.map N)
 ty:zN M t=some "list"
 src:∃d,L0 M t=some (L.map N,d)/\W8 M t=some (L.map N,d)/\qY d M=true
 nv:t.isV=none
theorem IsL.nl(M:Mem)(L:List Nat):IsL M (NL L) L:=⟨rfl,rfl,rfl,⟨[],rfl,rfl,rfl⟩,rfl⟩
theorem IsL.cell{M:Mem}{n:Nat}{L:List Nat}(h:M[n]?=some (L.map N)):IsL M (.cell n) L:=⟨h,h,qEs h,⟨_,E5 h,E5 h,i7 h⟩,rfl⟩
section
variable{M:Mem}{t u:T}{L K:List Nat}
theorem IsL.len(h:IsL M t L):zi M .len [t]=some (N L.length,true):=by
 show (t.its M).map _=_;rw[h.its,Option.map_some,wR];rfl
theorem IsL.list(h:IsL M t L):zi M .list [t]=some (NL L,true):=by
 show (t.its M).map lT=_;rw[h.its,Option.map_some];show some (T.lst (L.map N),T.lfs (L.map N))=_;rw[QF];rfl
theorem i5:∀L:List Nat,jJ (L.map N)=some (L.map λ(n:Nat)=>(n:Int))
 | []=>rfl
 |x::L=>by
  show (jJ (L.map N)).map _=_;rw[i5 L];rfl
theorem D7:∀L:List Nat,(L.map λ(n:Nat)=>(n:Int)).sum=((L.sum:Nat):Int)
 | []=>rfl
 |x::L=>by rw[List.map_cons,List.sum_cons,D7 L,List.sum_cons];simp
theorem IsL.sum(h:IsL M t L):zi M .sum [t]=some (N L.sum,true):=by
 show (t.lis M).bind _=_;rw[h.lis,Option.bind_some,i5,Option.map_some,D7];rfl
theorem IsL.idx(h:IsL M t L){i:Nat}{x:Nat}(e:L[i]?=some x):JF M t (N i)=some (N x,true):=by
 show ((t.its M).bind λxs=>(L2.ixN xs.length (i:Int)).bind λj=>(xs[j]?).map λt=>(t,t.lf))=_;rw[h.its,Option.bind_some];have:=C5 (M:=M) i (L.map N);rw[show JF M (.lst (L.map N)) (N i)=((L2.ixN (L.map N).length (i:Int)).bind λj=>((L.map N)[j]?).map λt=>(t,t.lf)) from rfl]at this;rw[this,wP,e];simp
theorem IsL.eq(h:IsL M t L)(k:IsL M u K):eqT M 4 t u=some (decide (L=K)):=by
 have:=qCA (M:=M) (d:=3) L K;unfold eqT at this ⊢;rw[h.nv,k.nv,h.lis,k.lis];exact this
theorem IsL.ceq(h:IsL M t L)(k:IsL M u K):qo M .eq t u=some (decide (L=K)):=h.eq k
theorem IsL.cne(h:IsL M t L)(k:IsL M u K):qo M .ne t u=some (!decide (L=K)):=by
 show (eqT M 4 t u).map (!·)=_;rw[h.eq k];rfl
end
theorem Qq{xs:List T}{m:Nat}(h:m<=xs.length):QB xs none (some (m:Int))=xs.take m:=by
 unfold QB;rw[HT.sIx_none,HT.sIx_nat,vO h,List.drop_zero,Nat.sub_zero]
theorem O5{xs:List T}{m:Nat}(h:m<=xs.length):QB xs (some (m:Int)) none=xs.drop m:=by
 unfold QB;rw[HT.sIx_none,HT.sIx_nat,vO h];exact List.take_of_length_le (by simp)
theorem G5{gl:List T}{P:Nat->List T->Mem->PR (TB×Mem)}{d:QC}{e:TS->Mem->PR (TB×Mem)}{M:Mem}(f:Nat->Nat->Nat)(hd:qY d M=true):∀(A B ys:List Nat) (b:Bool) (o1 o2:Option T),ys.length+A.length<=lim ->
  (∀x y,x∈A->y∈B->e [some (N x),some (N y)] M=.ok ((N (f x y),true),M)) ->
  qb d (.tup [0,1]) (pec gl P .nil) e (List.zipWith (λa b=>T.tup [a,b]) (A.map N) (B.map N)) (ys.map N) b [o1,o2] M=.ok ((NL (ys++List.zipWith f A B),b),M)
 | [],B,ys,b,o1,o2,hl,he=>by simp[qb,NL]
 |x::A,[],ys,b,o1,o2,hl,he=>by simp[qb,NL]
 |x::A,y::B,ys,b,o1,o2,hl,he=>by
  rw[List.map_cons,List.map_cons,List.zipWith_cons_cons];unfold qb;rw[show zR (.tup [0,1]) (.tup [N x,N y]) [o1,o2]=some [some (N x),some (N y)] from rfl];dsimp only;rw[jK,PR.bind_ok];dsimp only;rw[if_pos rfl,he x y (List.mem_cons_self ..) (List.mem_cons_self ..),PR.bind_ok];dsimp only;rw[if_pos ⟨by simp at hl ⊢;omega,hd⟩];rw[show ys.map N++[N (f x y)]=(ys++[f x y]).map N by simp,Bool.and_true];rw[G5 f hd A B (ys++[f x y]) b _ _ (by simp at hl ⊢;omega) (λu v hu hv=>he u v (List.mem_cons_of_mem _ hu) (List.mem_cons_of_mem _ hv))];simp
theorem W0{M:Mem}(h:FlatM M)(A:List Nat)(f:Bool):JM M.length (.ok (.rt (.cell M.length,f),M++[A.map N]))=.ok ((NL A,true),M):=by
 show finish M.length _ _=_;unfold finish;rw[if_neg (by simp),if_pos (by rw[vP];exact h.all _;rfl)];have g0:(M++[A.map N])[M.length]?=some (A.map N):=by simp
 have r:qH (M++[A.map N]) M.length 6 (.cell M.length)=some (NL A):=by
  unfold qH;rw[if_neg (by unfold T.und;simp)];dsimp only;rw[g0,Option.bind_some,ZE];rfl
 have i:frR (M++[A.map N]) M.length (.cell M.length)=true:=by
  unfold frR;rw[show zE (M++[A.map N]) M.length 6 (.cell M.length)=some [M.length] by
   unfold zE;rw[if_neg (by rw[V6];decide)];dsimp only;rw[if_pos (Nat.le_refl _),g0,Option.bind_some,W2,Option.map_some,N5];rfl]
  simp
 rw[r,PR.ofO_some,PR.bind_ok,i,Bool.or_true];rw[show (M++[A.map N]).take M.length=M from by rw[vP];rfl]
theorem A3{α:Type}(p:α->Bool):∀L:List α,zH (L.map λx=>T.v (.bl (p x)))=some (L.map p)
 | []=>rfl
 |x::L=>by
  show (zH (L.map λx=>T.v (.bl (p x)))).map _=_;rw[A3 p L];rfl
theorem qAs{M:Mem}{α:Type}(p:α->Bool)(L:List α):zi M .all [.lst (L.map λx=>T.v (.bl (p x)))]=some (bT (L.all p)):=by
 show (zH _).map _=_;rw[A3,Option.map_some,List.all_map];rfl
theorem qA9{M:Mem}{α:Type}(p:α->Bool)(L:List α):zi M .any [.lst (L.map λx=>T.v (.bl (p x)))]=some (bT (L.any p)):=by
 show (zH _).map _=_;rw[A3,Option.map_some,List.any_map];rfl
theorem qF8(K:List Nat):lT (K.map N)=(NL K,true):=by unfold lT;rw[QF];rfl
theorem getD_some{L:List Nat}{i:Nat}(h:i<L.length):L[i]?=some (L.getD i 0):=by
 rw[List.getD_eq_getElem?_getD,wA h];rfl
def IsS(M:Mem)(t:T)(ts:List T):Prop:=t=.lst ts\/∃m,t=.cell m/\M[m]?=some ts
section
variable{M C:Mem}{t:T}{ts:List T}
theorem IsS.app(h:IsS M t ts):IsS (M++C) t ts:=by
 rcases h with h|⟨m,h,e⟩
 ·exact .inl h
 ·exact .inr ⟨m,h,by rw[List.getElem?_append_left (List.getElem?_eq_some_iff.mp e).1];exact e⟩
theorem IsS.its(h:IsS M t ts):t.its M=some ts:=by rcases h with rfl|⟨m,rfl,e⟩;rfl;exact e
theorem IsS.lis(h:IsS M t ts):t.lis M=some ts:=by rcases h with rfl|⟨m,rfl,e⟩;rfl;exact e
theorem IsS.ty(h:IsS M t ts):zN M t=some "list":=by rcases h with rfl|⟨m,rfl,e⟩;rfl;exact qEs e
theorem IsS.nv(h:IsS M t ts):t.isV=none:=by rcases h with rfl|⟨m,rfl,e⟩<;>rfl
theorem IsS.lf(h:IsS M t ts):t.lf=false:=by rcases h with rfl|⟨m,rfl,e⟩<;>simp
theorem IsS.src(h:IsS M t ts):∃d,L0 M t=some (ts,d)/\W8 M t=some (ts,d)/\∀C,qY d (M++C)=true:=by
 rcases h with rfl|⟨m,rfl,e⟩
 ·exact⟨[],rfl,rfl,λ_=>rfl⟩
 ·exact⟨_,E5 e,E5 e,λC=>i7 (by rw[List.getElem?_append_left (List.getElem?_eq_some_iff.mp e).1];exact e)⟩
theorem IsS.len(h:IsS M t ts):zi M .len [t]=some (N ts.length,true):=by
 show (t.its M).map _=_;rw[h.its,Option.map_some];rfl
theorem IsS.idx(h:IsS M t ts)(i:Nat):JF M t (N i)=(ts[i]?).map λt=>(t,t.lf):=by
 have a:JF M t (N i)=JF M (.lst ts) (N i):=by
  show (t.its M).bind _=_;rw[h.its];rfl
 rw[a,C5]
theorem IsS.list(h:IsS M t ts):zi M .list [t]=some (lT ts):=by
 show (t.its M).map lT=_;rw[h.its];rfl
theorem IsS.eqT{u:T}{us:List T}{d:Nat}{bs:List Bool}(h:IsS M t ts)(k:IsS M u us)(hl:ts.length=us.length)(e:zh (eqT M d) ts us=some bs):PI.eqT M (d+1) t u=some (bs.all id):=by
 unfold PI.eqT;rw[h.nv,k.nv,h.lis,k.lis];dsimp only;rw[if_pos hl,e];rfl
end
def WfM(M:Mem):Prop:=M.all (T.unds M.length)=true
theorem WfM.app{M C:Mem}(h:WfM M)(hC:∀c∈C,T.unds (M++C).length c=true):WfM (M++C):=by
 unfold WfM at *;rw[wL]at h ⊢;intro c hc;rcases wD.mp hc with z|z
 ·exact zV (by simp) c (h c z)
 ·exact hC c z
theorem FlatM.wf{M:Mem}(h:FlatM M):WfM M:=h.all _
theorem WfM.one{M:Mem}(h:WfM M){ts:List T}(l:T.lfs ts=true):WfM (M++[ts]):=h.app λc hc=>by rw[wQ.mp hc];exact Za _ _ l
theorem Qn{M:Mem}{n0 d:Nat}:∀ts:List T,T.lfs ts=true->ts.mapM (qH M n0 d)=some ts
 | [],_=>rfl
 |t::ts,h=>by
  rw[QM,Bool.and_eq_true]at h;have e:qH M n0 d t=some t:=by cases d<;>(unfold qH;rw[if_pos (O1 n0 t h.1)])
  rw[List.mapM_cons,e,Qn ts h.2];rfl
theorem G7{M:Mem}{n0 d:Nat}:∀ts:List T,T.lfs ts=true->ts.mapM (zE M n0 d)=some (ts.map λ_=>[])
 | [],_=>rfl
 |t::ts,h=>by
  rw[QM,Bool.and_eq_true]at h;have e:zE M n0 d t=some []:=by cases d<;>(unfold zE;rw[if_pos h.1])
  rw[List.mapM_cons,e,G7 ts h.2];rfl
theorem L7(L:List T):(L.map λ_=>([]:List Nat)).flatten=[]:=by
 induction L with
 |nil=>rfl
 |cons x L ih=>rw[List.map_cons,List.flatten_cons,ih];rfl
section
variable{gl:List T}{P:Nat->List T->Mem->PR (TB×Mem)}{M:Mem}{t:T}{l:TS}
@[simp high] theorem qFV:pe gl P (.var 0) (some t::l) M=.ok ((t,t.lf),M):=Eq.trans rfl rfl
@[simp high] theorem qE9{x0:Option T}:pe gl P (.var 1) (x0::some t::l) M=.ok ((t,t.lf),M):=Eq.trans rfl rfl
@[simp high] theorem qFl{x0 x1:Option T}:pe gl P (.var 2) (x0::x1::some t::l) M=.ok ((t,t.lf),M):=Eq.trans rfl rfl
@[simp high] theorem qFO{x0 x1 x2:Option T}:pe gl P (.var 3) (x0::x1::x2::some t::l) M=.ok ((t,t.lf),M):=Eq.trans rfl rfl
@[simp high] theorem qFk{x0 x1 x2 x3:Option T}:pe gl P (.var 4) (x0::x1::x2::x3::some t::l) M=.ok ((t,t.lf),M):=Eq.trans rfl rfl
@[simp high] theorem qFG{x0 x1 x2 x3 x4:Option T}:pe gl P (.var 5) (x0::x1::x2::x3::x4::some t::l) M=.ok ((t,t.lf),M):=Eq.trans rfl rfl
@[simp high] theorem qFS{x0 x1 x2 x3 x4 x5:Option T}:pe gl P (.var 6) (x0::x1::x2::x3::x4::x5::some t::l) M=.ok ((t,t.lf),M):=Eq.trans rfl rfl
@[simp high] theorem qF7{x0 x1 x2 x3 x4 x5 x6:Option T}:pe gl P (.var 7) (x0::x1::x2::x3::x4::x5::x6::some t::l) M=.ok ((t,t.lf),M):=Eq.trans rfl rfl
@[simp high] theorem qFs{x0 x1 x2 x3 x4 x5 x6 x7:Option T}:pe gl P (.var 8) (x0::x1::x2::x3::x4::x5::x6::x7::some t::l) M=.ok ((t,t.lf),M):=Eq.trans rfl rfl
@[simp high] theorem qFi{x0 x1 x2 x3 x4 x5 x6 x7 x8:Option T}:pe gl P (.var 9) (x0::x1::x2::x3::x4::x5::x6::x7::x8::some t::l) M=.ok ((t,t.lf),M):=Eq.trans rfl rfl
@[simp high] theorem qE2{x0 x1 x2 x3 x4 x5 x6 x7 x8 x9:Option T}:pe gl P (.var 10) (x0::x1::x2::x3::x4::x5::x6::x7::x8::x9::some t::l) M=.ok ((t,t.lf),M):=Eq.trans rfl rfl
@[simp high] theorem qEM{x0 x1 x2 x3 x4 x5 x6 x7 x8 x9 x10:Option T}:pe gl P (.var 11) (x0::x1::x2::x3::x4::x5::x6::x7::x8::x9::x10::some t::l) M=.ok ((t,t.lf),M):=Eq.trans rfl rfl
@[simp high] theorem qEi{x0 x1 x2 x3 x4 x5 x6 x7 x8 x9 x10 x11:Option T}:pe gl P (.var 12) (x0::x1::x2::x3::x4::x5::x6::x7::x8::x9::x10::x11::some t::l) M=.ok ((t,t.lf),M):=Eq.trans rfl rfl
@[simp high] theorem qEI{x0 x1 x2 x3 x4 x5 x6 x7 x8 x9 x10 x11 x12:Option T}:pe gl P (.var 13) (x0::x1::x2::x3::x4::x5::x6::x7::x8::x9::x10::x11::x12::some t::l) M=.ok ((t,t.lf),M):=Eq.trans rfl rfl
@[simp high] theorem qEQ{y z:Option T}:(y::l:TS).set 0 z=z::l:=Eq.trans rfl rfl
@[simp high] theorem qE0{x0 y z:Option T}:(x0::y::l:TS).set 1 z=x0::z::l:=Eq.trans rfl rfl
@[simp high] theorem qEP{x0 x1 y z:Option T}:(x0::x1::y::l:TS).set 2 z=x0::x1::z::l:=Eq.trans rfl rfl
@[simp high] theorem qD9{x0 x1 x2 y z:Option T}:(x0::x1::x2::y::l:TS).set 3 z=x0::x1::x2::z::l:=Eq.trans rfl rfl
@[simp high] theorem qEc{x0 x1 x2 x3 y z:Option T}:(x0::x1::x2::x3::y::l:TS).set 4 z=x0::x1::x2::x3::z::l:=Eq.trans rfl rfl
@[simp high] theorem qEX{x0 x1 x2 x3 x4 y z:Option T}:(x0::x1::x2::x3::x4::y::l:TS).set 5 z=x0::x1::x2::x3::x4::z::l:=Eq.trans rfl rfl
@[simp high] theorem qE1{x0 x1 x2 x3 x4 x5 y z:Option T}:(x0::x1::x2::x3::x4::x5::y::l:TS).set 6 z=x0::x1::x2::x3::x4::x5::z::l:=Eq.trans rfl rfl
@[simp high] theorem qEJ{x0 x1 x2 x3 x4 x5 x6 y z:Option T}:(x0::x1::x2::x3::x4::x5::x6::y::l:TS).set 7 z=x0::x1::x2::x3::x4::x5::x6::z::l:=Eq.trans rfl rfl
@[simp high] theorem qEG{x0 x1 x2 x3 x4 x5 x6 x7 y z:Option T}:(x0::x1::x2::x3::x4::x5::x6::x7::y::l:TS).set 8 z=x0::x1::x2::x3::x4::x5::x6::x7::z::l:=Eq.trans rfl rfl
@[simp high] theorem qEY{x0 x1 x2 x3 x4 x5 x6 x7 x8 y z:Option T}:(x0::x1::x2::x3::x4::x5::x6::x7::x8::y::l:TS).set 9 z=x0::x1::x2::x3::x4::x5::x6::x7::x8::z::l:=Eq.trans rfl rfl
@[simp high] theorem qDU{x0 x1 x2 x3 x4 x5 x6 x7 x8 x9 y z:Option T}:(x0::x1::x2::x3::x4::x5::x6::x7::x8::x9::y::l:TS).set 10 z=x0::x1::x2::x3::x4::x5::x6::x7::x8::x9::z::l:=Eq.trans rfl rfl
@[simp high] theorem qC6{x0 x1 x2 x3 x4 x5 x6 x7 x8 x9 x10 y z:Option T}:(x0::x1::x2::x3::x4::x5::x6::x7::x8::x9::x10::y::l:TS).set 11 z=x0::x1::x2::x3::x4::x5::x6::x7::x8::x9::x10::z::l:=Eq.trans rfl rfl
@[simp high] theorem qDK{x0 x1 x2 x3 x4 x5 x6 x7 x8 x9 x10 x11 y z:Option T}:(x0::x1::x2::x3::x4::x5::x6::x7::x8::x9::x10::x11::y::l:TS).set 12 z=x0::x1::x2::x3::x4::x5::x6::x7::x8::x9::x10::x11::z::l:=Eq.trans rfl rfl
@[simp high] theorem qDC{x0 x1 x2 x3 x4 x5 x6 x7 x8 x9 x10 x11 x12 y z:Option T}:(x0::x1::x2::x3::x4::x5::x6::x7::x8::x9::x10::x11::x12::y::l:TS).set 13 z=x0::x1::x2::x3::x4::x5::x6::x7::x8::x9::x10::x11::x12::z::l:=Eq.trans rfl rfl
variable{σ:TS}{C:List Nat}{e:E}{i:Nat}
theorem qCy(h:(C.contains i||C.contains (i+1000))=false):px gl P C (.asg (.name i) e) σ M=(pe gl P e σ M).bind λp=>.ok (.nx (σ.set i (some p.1.1)),p.2):=by
 rw[wz]at h;rw[y9,h.1,h.2];rfl
@[simp high] theorem qEw:px gl P [] (.asg (.name i) e) σ M=(pe gl P e σ M).bind λp=>.ok (.nx (σ.set i (some p.1.1)),p.2):=qCy rfl
variable{s:S}{r t0 u0:Ss}{σ':TS}{M':Mem}{c:E}{b:Bool}
theorem qAb:pxs gl P C (.cons s .nil) σ M=px gl P C s σ M:=by
 rw[Y0];cases px gl P C s σ M with
 |ok p=>obtain⟨o,M'⟩:=p;cases o<;>rfl
 |_=>rfl
end
end PI
namespace GF
inductive Sp(L:List Nat):Nat->Prop
 |zero:Sp L 0
 |add{x y:Nat}:x∈L->Sp L y->Sp L (x ^^^ y)
theorem Sp.xor{L:List Nat}{a b:Nat}(h:Sp L a)(k:Sp L b):Sp L (a ^^^ b):=by
 induction h with
 |zero=>rw[Nat.zero_xor];exact k
 |add m _ ih=>rw[Nat.xor_assoc];exact .add m ih
theorem Sp.sub{L K:List Nat}(h:∀x∈L,Sp K x){y:Nat}(k:Sp L y):Sp K y:=by
 induction k with
 |zero=>exact .zero
 |add m _ ih=>exact(h _ m).xor ih
theorem Sp.lt{L:List Nat}{b:Nat}(h:∀x∈L,x<2 ^ b){y:Nat}(k:Sp L y):y<2 ^ b:=by
 induction k with
 |zero=>exact vT (by decide)
 |add m _ ih=>exact Nat.xor_lt_two_pow (h _ m) ih
noncomputable def rch(q t:Nat):Bool:=decide (q&&& t=t)
theorem rch_iff{q t:Nat}:rch q t=true↔∀i,t.testBit i=true->q.testBit i=true:=by
 unfold rch;rw[vY];constructor
 ·intro h i hi;have:=congrArg (·.testBit i) h;simp only[Nat.testBit_and,hi,Bool.and_true]at this;exact this
 ·intro h;refine Nat.eq_of_testBit_eq λi=>?_;rw[Nat.testBit_and];cases e:t.testBit i with
  |true=>rw[h i e];rfl
  |false=>rw[wb]
theorem Qp{s x:Nat}(hx:x<2 ^ s)(i:Nat):(2 ^ s+x).testBit i=(decide (i=s)||x.testBit i):=by
 rcases Nat.lt_trichotomy i s with h|h|h
 ·rw[Nat.testBit_two_pow_add_gt h,vW (by omega),Bool.false_or]
 ·subst h;rw[Nat.testBit_two_pow_add_eq,wW hx];simp
 ·rw[wW (wB (show 2 ^ s+x<2 ^ (s+1) by rw[wU];omega) (vA (by decide) h)),wW (wB hx (vA (by decide) (wj h))),vW (by omega)];rfl
theorem Jh{s q t:Nat}(hq:q<2 ^ s)(ht:t<2 ^ s):rch (2 ^ s+q) t=rch q t:=by
 rw[wN,rch_iff,rch_iff];refine⟨λh i hi=>?_,λh i hi=>?_⟩
 ·have:=h i hi;rw[Qp hq]at this;by_cases e:i=s
  ·subst e;rw[wW ht]at hi;cases hi
  ·simpa [e] using this
 ·rw[Qp hq,h i hi,Bool.or_true]
theorem JW{s q t:Nat}(hq:q<2 ^ s)(ht:t<2 ^ s):rch (2 ^ s+q) (2 ^ s+t)=rch q t:=by
 rw[wN,rch_iff,rch_iff];refine⟨λh i hi=>?_,λh i hi=>?_⟩
 ·have:=h i (by rw[Qp ht,hi,Bool.or_true]);rw[Qp hq]at this;by_cases e:i=s
  ·subst e;rw[wW ht]at hi;cases hi
  ·simpa [e] using this
 ·rw[Qp ht]at hi;rw[Qp hq];by_cases e:i=s
  ·simp[e]
  ·rw[h i (by simpa [e] using hi),Bool.or_true]
theorem C0{s q t:Nat}(hq:q<2 ^ s)(ht:t<2 ^ s):rch q (2 ^ s+t)=false:=by
 cases e:rch q (2 ^ s+t) with
 |false=>rfl
 |true=>
  have:=rch_iff.mp e s (by rw[Qp ht];simp);rw[wW hq]at this;cases this
noncomputable def lp:Nat->(Nat->Bool)->Nat->Bool
 | 0,S,p=>S p
 |s+1,S,p=>if p<2 ^ s then lp s (λt=>S t||S (t+2 ^ s)) p else lp s (λt=>S t&&S (t+2 ^ s)) (p-2 ^ s)
inductive Cb(s:Nat)(S:Nat->Bool):(Nat->Bool)->Prop
 |zero:Cb s S λ_=>false
 |add{t:Nat}{g:Nat->Bool}:t<2 ^ s->S t=false->Cb s S g->Cb s S λq=>(rch q t ^^ g q)
theorem pw(s:Nat):2 ^ (s+1)=2 ^ s+2 ^ s:=by rw[wU];omega
theorem Cb.both{s:Nat}{S:Nat->Bool}{g:Nat->Bool}(h:Cb s (λt=>S t||S (t+2 ^ s)) g):∃g',Cb (s+1) S g'/\(∀q,q<2 ^ s->g' q=g q)/\∀q,q<2 ^ s->g' (2 ^ s+q)=false:=by
 have:=pw s
 induction h with
 |zero=>exact⟨_,.zero,λ_ _=>rfl,λ_ _=>rfl⟩
 | @add t g ht hS _ ih=>
  obtain⟨g',k,a,b⟩:=ih;simp only[wz]at hS;refine⟨_,.add (t:=t) (by omega) hS.1 (.add (t:=2 ^ s+t) (by omega) (by rw[vQ];exact hS.2) k),λq hq=>?_,λq hq=>?_⟩
  ·rw[C0 hq ht,a q hq,wc]
  ·rw[Jh hq ht,JW hq ht,b q hq,wn,vJ]
theorem Cb.one{s:Nat}{S:Nat->Bool}{g:Nat->Bool}(h:Cb s (λt=>S t&&S (t+2 ^ s)) g):∃g',Cb (s+1) S g'/\∀q,q<2 ^ s->g' (2 ^ s+q)=g q:=by
 have:=pw s
 induction h with
 |zero=>exact⟨_,.zero,λ_ _=>rfl⟩
 | @add t g ht hS _ ih=>
  obtain⟨g',k,b⟩:=ih;cases e:S t with
  |false=>
   refine⟨_,.add (t:=t) (by omega) e k,λq hq=>?_⟩;rw[Jh hq ht,b q hq]
  |true=>
   have e2:S (t+2 ^ s)=false:=by
    have:(S t&&S (t+2 ^ s))=false:=hS;rw[e,Bool.true_and]at this;exact this
   refine⟨_,.add (t:=2 ^ s+t) (by omega) (by rw[vQ];exact e2) k,λq hq=>?_⟩;rw[JW hq ht,b q hq]
theorem qDr:∀(s:Nat) (S:Nat->Bool) (p:Nat),p<2 ^ s->lp s S p=false->∃g,Cb s S g/\∀q,p<=q->q<2 ^ s->g q=decide (q=p)
 | 0,S,p,hp,h=>by
  have e:p=0:=by omega
  subst e;refine⟨_,.add (t:=0) (by decide) h .zero,λq _ hq=>?_⟩;rw[show q=0 by omega];rfl
 |s+1,S,p,hp,h=>by
  have:=pw s;unfold lp at h;split at h
  ·rename_i c;obtain⟨g,k,e⟩:=qDr s _ p c h;obtain⟨g',k',a,b⟩:=k.both;refine⟨g',k',λq h1 h2=>?_⟩;by_cases hq:q<2 ^ s
   ·rw[a q hq,e q h1 hq]
   ·have:=b (q-2 ^ s) (by omega);rw[show 2 ^ s+(q-2 ^ s)=q by omega]at this;rw[this,vW (by omega)]
  ·rename_i c;obtain⟨g,k,e⟩:=qDr s _ (p-2 ^ s) (by omega) h;obtain⟨g',k',b⟩:=k.one;refine⟨g',k',λq h1 h2=>?_⟩;have:=b (q-2 ^ s) (by omega);rw[show 2 ^ s+(q-2 ^ s)=q by omega,e (q-2 ^ s) (by omega) (by omega)]at this;rw[this];congr 1;rw[eq_iff_iff];omega
noncomputable def par:Nat->(Nat->Bool)->Bool
 | 0,_=>false
 |n+1,f=>(par n f ^^ f n)
theorem Q0(m:Nat)(f:Nat->Bool):∀n,par (m+n) f=(par m f ^^ par n λt=>f (m+t))
 | 0=>by show par m f=(par m f ^^ false);rw[wn]
 |n+1=>by
  show (par (m+n) f ^^ f (m+n))=(par m f ^^ (par n (λt=>f (m+t)) ^^ f (m+n)));rw[Q0 m f n,vS]
theorem qV:∀(n:Nat) (f g:Nat->Bool),(∀t,t<n->f t=g t)->par n f=par n g
 | 0,_,_,_=>rfl
 |n+1,f,g,h=>by unfold par;rw[qV n f g λt ht=>h t (by omega),h n (by omega)]
theorem zM:∀(n:Nat),par n (λ_=>false)=false
 | 0=>rfl
 |n+1=>by unfold par;rw[zM n];rfl
theorem ZZ:∀(n:Nat) (f g:Nat->Bool),par n (λt=>f t ^^ g t)=(par n f ^^ par n g)
 | 0,_,_=>rfl
 |n+1,f,g=>by
  show (par n (λt=>f t ^^ g t) ^^ (f n ^^ g n))=((par n f ^^ f n) ^^ (par n g ^^ g n));rw[ZZ n f g];cases par n f<;>cases par n g<;>cases f n<;>cases g n<;>rfl
noncomputable def wd:Nat->(Nat->Bool)->Nat->Bool
 | 0,c,t=>c t
 |s+1,c,t=>if t<2 ^ s then (wd s c t ^^ wd s (λq=>c (2 ^ s+q)) t) else wd s (λq=>c (2 ^ s+q)) (t-2 ^ s)
theorem wd_congr:∀(s:Nat) (a b:Nat->Bool) (t:Nat),(∀q,q<2 ^ s->a q=b q)->t<2 ^ s->wd s a t=wd s b t
 | 0,a,b,t,h,ht=>h t ht
 |s+1,a,b,t,h,ht=>by
  have:=pw s;unfold wd;split
  ·rw[wd_congr s a b t (λq hq=>h q (by omega)) (by omega),wd_congr s _ (λq=>b (2 ^ s+q)) t (λq hq=>h _ (by omega)) (by omega)]
  ·exact wd_congr s _ _ _ (λq hq=>h _ (by omega)) (by omega)
theorem E6:∀(s:Nat) (a b:Nat->Bool) (t:Nat),wd s (λq=>a q ^^ b q) t=(wd s a t ^^ wd s b t)
 | 0,_,_,_=>rfl
 |s+1,a,b,t=>by
  unfold wd;split
  ·rw[E6 s a b,E6 s (λq=>a (2 ^ s+q)) λq=>b (2 ^ s+q)];generalize wd s a t=x;generalize wd s b t=y;generalize wd s (λq=>a (2 ^ s+q)) t=z;generalize wd s (λq=>b (2 ^ s+q)) t=u;cases x<;>cases y<;>cases z<;>cases u<;>rfl
  ·exact E6 s _ _ _
theorem S1:∀(s:Nat) (c:Nat->Bool) (t:Nat),t<2 ^ s->wd s (wd s c) t=c t
 | 0,c,t,_=>rfl
 |s+1,c,t,ht=>by
  have:=pw s;have e2:∀t,t<2 ^ s->wd s (λq=>wd (s+1) c (2 ^ s+q)) t=c (2 ^ s+t):=λt ht=>by
   rw[wd_congr s _ (wd s λq=>c (2 ^ s+q)) t (λq hq=>by rw[wd,if_neg (by omega),wI]) ht];exact S1 s _ t ht
  have e1:∀t,t<2 ^ s->wd s (wd (s+1) c) t=(c t ^^ c (2 ^ s+t)):=λt ht=>by
   rw[wd_congr s _ (λq=>wd s c q ^^ wd s (λq=>c (2 ^ s+q)) q) t (λq hq=>by rw[wd,if_pos hq]) ht,E6,S1 s c t ht,S1 s _ t ht]
  rw[wd];split
  ·rename_i h;rw[e1 t h,e2 t h,vS,vJ,wn]
  ·rename_i h;rw[e2 (t-2 ^ s) (by omega),show 2 ^ s+(t-2 ^ s)=t by omega]
theorem Qe:∀(s:Nat) (c:Nat->Bool) (t:Nat),t<2 ^ s->wd s c t=par (2 ^ s) λq=>c q&&rch q t
 | 0,c,t,ht=>by
  rw[show t=0 by omega];show c 0=(false ^^ (c 0&&true));rw[Bool.and_true,wc]
 |s+1,c,t,ht=>by
  have:=pw s;rw[this,Q0,wd];split
  ·rename_i h;rw[Qe s c t h,Qe s _ t h];congr 1;exact qV _ _ _ λq hq=>by rw[Jh hq h]
  ·rename_i h;obtain⟨u,rfl⟩:∃u,t=2 ^ s+u:=⟨t-2 ^ s,by omega⟩
   have hu:u<2 ^ s:=by omega
   rw[wI,Qe s _ u hu,qV (2 ^ s) (λq=>c q&&rch q (2 ^ s+u)) (λ_=>false) (λq hq=>by rw[C0 hq hu,wb]),zM,wc];exact qV _ _ _ λq hq=>by rw[JW hq hu]
theorem qAt:∀(s:Nat) (S:Nat->Bool) (p:Nat),p<2 ^ s->lp s S p=true->∃c:Nat->Bool,(∀q,q<p->c q=false)/\c p=true/\∀t,t<2 ^ s->S t=false->wd s c t=false
 | 0,S,p,hp,h=>by
  have e:p=0:=by omega
  subst e;refine⟨λ_=>true,λq hq=>by omega,rfl,λt ht hS=>?_⟩;rw[show t=0 by omega]at hS;rw[show lp 0 S 0=S 0 from rfl]at h;rw[h]at hS;cases hS
 |s+1,S,p,hp,h=>by
  have:=pw s;unfold lp at h;split at h
  ·rename_i hq;obtain⟨c,c1,c2,c3⟩:=qAt s _ p hq h;refine⟨λq=>if q<2 ^ s then c q else wd s (λt=>S (t+2 ^ s)&&wd s c t) (q-2 ^ s),λq h'=>?_,?_,λt ht hS=>?_⟩
   ·dsimp only;rw[if_pos (by omega)];exact c1 q h'
   ·dsimp only;rw[if_pos hq];exact c2
   ·have w1:∀t,t<2 ^ s->wd s (λq=>if q<2 ^ s then c q else wd s (λt=>S (t+2 ^ s)&&wd s c t) (q-2 ^ s)) t=wd s c t:=λt ht=>wd_congr s _ _ t (λq hq=>by rw[if_pos hq]) ht;have w2:∀t,t<2 ^ s->wd s (λq=>if 2 ^ s+q<2 ^ s then c (2 ^ s+q) else wd s (λt=>S (t+2 ^ s)&&wd s c t) (2 ^ s+q-2 ^ s)) t=(S (t+2 ^ s)&&wd s c t):=λt ht=>by
     rw[wd_congr s _ (wd s λt=>S (t+2 ^ s)&&wd s c t) t (λq hq=>by rw[if_neg (by omega),wI]) ht];exact S1 s _ t ht
    rw[wd];split
    ·rename_i ht';rw[w1 t ht',w2 t ht'];cases e:S (t+2 ^ s) with
     |true=>rw[Bool.true_and,vJ]
     |false=>
      rw[vD,wn];exact c3 t ht' (by rw[hS,e];rfl)
    ·rename_i ht';rw[w2 (t-2 ^ s) (by omega),show t-2 ^ s+2 ^ s=t by omega,hS,vD]
  ·rename_i hq;obtain⟨c,c1,c2,c3⟩:=qAt s _ (p-2 ^ s) (by omega) h;refine⟨λq=>if q<2 ^ s then false else c (q-2 ^ s),λq h'=>?_,?_,λt ht hS=>?_⟩
   ·dsimp only;split
    ·rfl
    ·exact c1 _ (by omega)
   ·dsimp only;rw[if_neg hq];exact c2
   ·have w1:∀t,t<2 ^ s->wd s (λq=>if q<2 ^ s then false else c (q-2 ^ s)) t=false:=λt ht=>by
     rw[wd_congr s _ (λ_=>false) t (λq hq=>by rw[if_pos hq]) ht,Qe s _ t ht,qV _ _ (λ_=>false) (λq _=>by rw[vD]),zM]
    have w2:∀t,t<2 ^ s->wd s (λq=>if 2 ^ s+q<2 ^ s then false else c (2 ^ s+q-2 ^ s)) t=wd s c t:=λt ht=>wd_congr s _ _ t (λq hq=>by rw[if_neg (by omega),wI]) ht;rw[wd];split
    ·rename_i ht';rw[w1 t ht',w2 t ht',wc];exact c3 t ht' (by rw[hS];rfl)
    ·rename_i ht';rw[w2 (t-2 ^ s) (by omega)];exact c3 _ (by omega) (by rw[show t-2 ^ s+2 ^ s=t by omega,hS,wb])
noncomputable def qg(l:List Nat)(f:Nat->Bool):Bool:=l.foldr (λx b=>(f x ^^ b)) false
theorem qT(x:Nat)(l:List Nat)(f:Nat->Bool):qg (x::l) f=(f x ^^ qg l f):=rfl
theorem QO(f:Nat->Bool):∀a b:List Nat,qg (a++b) f=(qg a f ^^ qg b f)
 | [],b=>by show qg b f=(false ^^ qg b f);rw[wc]
 |x::a,b=>by rw[List.cons_append,qT,qT,QO f a b,vS]
theorem zJ{f g:Nat->Bool}:∀l:List Nat,(∀x∈l,f x=g x)->qg l f=qg l g
 | [],_=>rfl
 |x::l,h=>by rw[qT,qT,h x (by simp),zJ l λy hy=>h y (by simp[hy])]
theorem jO{f:Nat->Bool}:∀l:List Nat,(∀x∈l,f x=false)->qg l f=false
 | [],_=>rfl
 |x::l,h=>by rw[qT,h x (by simp),jO l λy hy=>h y (by simp[hy])];rfl
theorem QR(g:Nat->Nat)(f:Nat->Bool):∀l:List Nat,qg (l.map g) f=qg l λx=>f (g x)
 | []=>rfl
 |x::l=>by rw[List.map_cons,qT,qT,QR g f l]
theorem ZR(f p:Nat->Bool):∀l:List Nat,qg l f=(qg (l.filter p) f ^^ qg (l.filter λx=>!p x) f)
 | []=>rfl
 |x::l=>by
  have ih:=ZR f p l;cases q:p x with
  |true=>
   rw[List.filter_cons_of_pos q,wS (by simp[q]),qT,qT,ih,vS]
  |false=>
   rw[wS (by simp[q]),List.filter_cons_of_pos (by simp[q]),qT,qT,ih];cases f x<;>cases qg (l.filter p) f<;>cases qg (l.filter λx=>!p x) f<;>rfl
theorem lpar_len(f:Nat->Bool):∀l:List Nat,(l.filter f).length % 2=(qg l f).toNat
 | []=>rfl
 |x::l=>by
  have ih:=lpar_len f l;rw[qT];cases q:f x with
  |true=>
   rw[List.filter_cons_of_pos q,List.length_cons];cases e:qg l f<;>rw[e]at ih<;>simp at ih ⊢<;>omega
  |false=>rw[wS (by simp[q]),ih];simp
theorem two_len(f g:Nat->Bool)(a b:List Nat):((a.filter f).length+(b.filter g).length) % 2=(qg a f ^^ qg b g).toNat:=by
 have h1:=lpar_len f a;have h2:=lpar_len g b;rw[Nat.add_mod,h1,h2];cases qg a f<;>cases qg b g<;>rfl
theorem qDk(n:Nat)(c:Nat->Bool)(r:Nat->Nat->Bool):∀l:List Nat,par n (λq=>c q&&qg l (r q))=qg l λt=>par n λq=>c q&&r q t
 | []=>by
  show par n (λq=>c q&&false)=false;rw[qV _ _ (λ_=>false) λq _=>by rw[wb],zM]
 |t::l=>by
  rw[qT,<-qDk n c r l,<-ZZ];exact qV _ _ _ λq _=>by rw[qT];cases c q<;>rfl
theorem Zo:∀(n P:Nat) (c:Nat->Bool),P<n->par n (λq=>c q&&decide (q=P))=c P
 | 0,P,c,h=>by omega
 |n+1,P,c,h=>by
  show (par n (λq=>c q&&decide (q=P)) ^^ (c n&&decide (n=P)))=c P;by_cases e:n=P
  ·subst e;rw[qV _ _ (λ_=>false) (λq hq=>by rw[vW (by omega),wb]),zM,vX rfl,Bool.and_true,wc]
  ·rw[Zo n P c (by omega),vW e,wb,wn]
def Ris(lo hi:Nat):List Nat->Prop
 | []=>True
 |x::L=>lo<=x/\x<hi/\Ris (x+1) hi L
theorem Ris.mem{hi:Nat}:∀{L:List Nat}{lo:Nat},Ris lo hi L->∀x∈L,lo<=x/\x<hi
 |y::L,lo,⟨a,b,c⟩,x,hx=>by
  rcases List.mem_cons.mp hx with rfl|hx
  ·exact⟨a,b⟩
  ·have:=c.mem x hx;omega
theorem Ris.wide{hi lo' hi':Nat}:∀{L:List Nat}{lo:Nat},Ris lo hi L->lo'<=lo->hi<=hi'->Ris lo' hi' L
 | [],_,_,_,_=>trivial
 |y::L,lo,⟨a,b,c⟩,h1,h2=>⟨by omega,by omega,c.wide (Nat.le_refl _) h2⟩
theorem Ris.up{lo hi:Nat}:∀{L:List Nat},lo<=hi->Ris lo hi L->Ris lo hi L
 |_,_,h=>h
theorem Ris.app{mid hi:Nat}{B:List Nat}(hB:Ris mid hi B)(hm:mid<=hi):∀{A:List Nat}{lo:Nat},lo<=mid->Ris lo mid A->Ris lo hi (A++B)
 | [],lo,hl,_=>hB.wide hl (Nat.le_refl _)
 |y::A,lo,hl,⟨a,b,c⟩=>⟨a,by omega,Ris.app hB hm (by omega) c⟩
theorem Ris.add{hi:Nat}(d:Nat):∀{L:List Nat}{lo:Nat},Ris lo hi L->Ris (d+lo) (d+hi) (L.map (d + ·))
 | [],_,_=>trivial
 |y::L,lo,⟨a,b,c⟩=>⟨show d+lo<=d+y by omega,show d+y<d+hi by omega,(c.add d).wide (show d+y+1<=d+(y+1) by omega) (Nat.le_refl _)⟩
theorem Ris.filter{hi:Nat}(p:Nat->Bool):∀{L:List Nat}{lo:Nat},Ris lo hi L->Ris lo hi (L.filter p)
 | [],_,_=>trivial
 |y::L,lo,⟨a,b,c⟩=>by
  cases q:p y with
  |true=>rw[List.filter_cons_of_pos q];exact⟨a,b,c.filter p⟩
  |false=>rw[wS (by simp[q])];exact(c.filter p).wide (by omega) (Nat.le_refl _)
theorem ZN:∀(n lo:Nat),Ris lo (lo+n) (List.range' lo n)
 | 0,_=>trivial
 |n+1,lo=>⟨Nat.le_refl _,by omega,by have:=ZN n (lo+1);rw[show lo+1+n=lo+(n+1) by omega]at this;exact this⟩
theorem ris_range(n:Nat)(q:Nat->Bool):Ris 0 n ((List.range n).filter q):=by
 have:=ZN n 0;rw[Nat.zero_add,<-vK]at this;exact this.filter q
theorem Ris.once{hi p:Nat}:∀{L:List Nat}{lo:Nat},Ris lo hi L->qg L (λq=>decide (q=p))=decide (p∈L)
 | [],_,_=>by simp[qg]
 |y::L,lo,⟨a,b,c⟩=>by
  rw[qT,c.once];by_cases e:y=p
  ·subst e;have:¬ y∈L:=λh=>by have:=(c.mem y h).1;omega
   simp[this]
  ·have e':¬ p=y:=λz=>e z.symm;simp[e,e']
structure Told(s:Nat)(S:Nat->Bool)(P:Nat)(sp pl:List Nat):Prop where
 r1:Ris 0 (2 ^ s) sp
 r2:Ris 0 P pl
 off:∀t∈sp,S t=false
 sum:∀p,p<2 ^ s->(qg sp (λt=>rch p t) ^^ qg pl λq=>decide (q=p))=decide (p=P)
structure Open(s:Nat)(S:Nat->Bool)(P:Nat)(c:Nat->Bool):Prop where
 c1:∀q,q<P->c q=false
 c2:c P=true
 c3:∀t,t<2 ^ s->S t=false->wd s c t=false
theorem never{s P:Nat}{S S':Nat->Bool}{sp pl:List Nat}{c:Nat->Bool}(hP:P<2 ^ s)(t:Told s S P sp pl)(hS:∀t∈sp,S' t=false)(o:Open s S' P c):False:=by
 have e:=Zo (2 ^ s) P c hP;rw[o.c2]at e;have e2:par (2 ^ s) (λq=>c q&&decide (q=P))=par (2 ^ s) λq=>(c q&&qg sp (λt=>rch q t)) ^^ (c q&&qg pl λz=>decide (z=q)):=qV _ _ _ λq hq=>by
  rw[<-t.sum q hq];cases c q<;>rfl
 rw[e2,ZZ,qDk,qDk]at e;have a1:qg sp (λt=>par (2 ^ s) λq=>c q&&rch q t)=false:=jO _ λx hx=>by
  have:=(t.r1.mem x hx).2;rw[<-Qe s c x this];exact o.c3 x this (hS x hx)
 have a2:qg pl (λz=>par (2 ^ s) λq=>c q&&decide (z=q))=false:=jO _ λz hz=>by
  have:=(t.r2.mem z hz).2;rw[qV _ _ (λq=>c q&&decide (q=z)) λq _=>by rw[show (decide (z=q))=decide (q=z) by simp[eq_comm]],Zo _ z c (by omega)];exact o.c1 z this
 rw[a1,a2]at e;cases e
theorem Open.lost{s P:Nat}{S:Nat->Bool}{c:Nat->Bool}(hP:P<2 ^ s)(o:Open s S P c):lp s S P=true:=by
 cases e:lp s S P with
 |true=>rfl
 |false=>
  exfalso;obtain⟨g,k,hg⟩:=qDr s S P hP e;have z:par (2 ^ s) (λq=>c q&&g q)=false:=by
   clear hg e
   induction k with
   |zero=>rw[qV _ _ (λ_=>false) λq _=>by rw[wb],zM]
   | @add t g ht hS _ ih=>
    rw[qV _ _ (λq=>(c q&&rch q t) ^^ (c q&&g q)) λq _=>by cases c q<;>rfl,ZZ,ih,<-Qe s c t ht,o.c3 t ht hS];rfl
  rw[qV _ _ (λq=>c q&&decide (q=P)) (λq hq=>by
   by_cases h:P<=q
   ·rw[hg q h hq]
   ·rw[o.c1 q (by omega)];rfl),Zo _ P c hP,o.c2]at z
  cases z
theorem Told.kept{s P:Nat}{S S':Nat->Bool}{sp pl:List Nat}(hP:P<2 ^ s)(t:Told s S P sp pl)(hS:∀t∈sp,S' t=false):lp s S' P=false:=by
 cases e:lp s S' P with
 |false=>rfl
 |true=>
  exfalso;obtain⟨c,c1,c2,c3⟩:=qAt s S' P hP e;exact never hP t hS ⟨c1,c2,c3⟩
theorem told_one{S:Nat->Bool}(h:S 0=false):Told 0 S 0 [0] []:=
 ⟨⟨Nat.le_refl _,by decide,trivial⟩,trivial,λt ht=>by simp at ht;rw[ht];exact h,λp hp=>by
  have:p=0:=by omega
  subst this;rfl⟩
theorem told_first{s P:Nat}{S:Nat->Bool}{sp pl:List Nat}(hP:P<2 ^ s)(t:Told s (λt=>S t||S (t+2 ^ s)) P sp pl):Told (s+1) S P (sp++sp.map (2 ^ s + ·)) pl:=by
 have p2:=pw s;refine⟨?_,t.r2,λx hx=>?_,λp hp=>?_⟩
 ·rw[p2];have:=t.r1.add (2 ^ s);rw[Nat.add_zero]at this;exact Ris.app this (by omega) (by omega) t.r1
 ·rcases wD.mp hx with h|h
  ·have:(S x||S (x+2 ^ s))=false:=t.off x h;rw[wz]at this;exact this.1
  ·obtain⟨y,hy,rfl⟩:=vR.mp h;have:(S y||S (y+2 ^ s))=false:=t.off y hy;rw[wz]at this;rw[vQ];exact this.2
 ·rw[QO,QR];have mem:=λx hx=>(t.r1.mem x hx).2;by_cases h:p<2 ^ s
  ·rw[jO (f:=λx=>rch p (2 ^ s+x)) sp λx hx=>C0 h (mem x hx),wn];exact t.sum p h
  ·obtain⟨q,rfl⟩:∃q,p=2 ^ s+q:=⟨p-2 ^ s,by omega⟩
   have hq:q<2 ^ s:=by omega
   rw[zJ (f:=λx=>rch (2 ^ s+q) x) (g:=rch q) sp λx hx=>Jh hq (mem x hx),zJ (f:=λx=>rch (2 ^ s+q) (2 ^ s+x)) (g:=rch q) sp λx hx=>JW hq (mem x hx),vJ,wc];rw[jO _ λx hx=>vW (by have:=(t.r2.mem x hx).2;omega),vW (by omega)]
theorem told_second{s P:Nat}{S:Nat->Bool}{sp pl:List Nat}(hP:P<2 ^ s)(t:Told s (λt=>S t&&S (t+2 ^ s)) P sp pl):
  Told (s+1) S (2 ^ s+P) (sp.filter (λx=>S (2 ^ s+x))++(sp.filter λx=>!S (2 ^ s+x)).map (2 ^ s + ·)) (((List.range (2 ^ s)).filter λp=>qg (sp.filter λx=>S (2 ^ s+x)) (rch p))++pl.map (2 ^ s + ·)):=by
 have p2:=pw s;have mem:=λx hx=>(t.r1.mem x hx).2;have meml:∀x∈sp.filter (λx=>S (2 ^ s+x)),x<2 ^ s:=λx hx=>mem x (List.mem_filter.mp hx).1;have memu:∀x∈sp.filter (λx=>!S (2 ^ s+x)),x<2 ^ s:=λx hx=>mem x (List.mem_filter.mp hx).1;refine⟨?_,?_,λx hx=>?_,λp hp=>?_⟩
 ·rw[p2];have:=(t.r1.filter λx=>!S (2 ^ s+x)).add (2 ^ s);rw[Nat.add_zero]at this;exact Ris.app this (by omega) (by omega) (t.r1.filter _)
 ·have:=t.r2.add (2 ^ s);rw[Nat.add_zero]at this;exact Ris.app this (by omega) (by omega) (ris_range _ _)
 ·rcases wD.mp hx with h|h
  ·obtain⟨h1,h2⟩:=List.mem_filter.mp h;have:(S x&&S (x+2 ^ s))=false:=t.off x h1;rw[vQ x,h2,Bool.and_true]at this;exact this
  ·obtain⟨y,hy,rfl⟩:=vR.mp h;simpa using (List.mem_filter.mp hy).2
 ·rw[QO,QO,QR,QR];have on:=(ris_range (2 ^ s) λp=>qg (sp.filter λx=>S (2 ^ s+x)) (rch p)).once (p:=p);rw[on];by_cases h:p<2 ^ s
  ·rw[jO (f:=λx=>rch p (2 ^ s+x)) _ λx hx=>C0 h (memu x hx),wn];rw[jO (f:=λx=>decide (2 ^ s+x=p)) _ λx hx=>vW (by omega),wn,vW (show ¬ p=2 ^ s+P by omega)];have:decide (p∈(List.range (2 ^ s)).filter λp=>qg (sp.filter λx=>S (2 ^ s+x)) (rch p))=qg (sp.filter λx=>S (2 ^ s+x)) (rch p):=by
    rw[wN,vY,List.mem_filter,wF];exact⟨λz=>z.2,λz=>⟨h,z⟩⟩
   rw[this];exact vJ _
  ·obtain⟨q,rfl⟩:∃q,p=2 ^ s+q:=⟨p-2 ^ s,by omega⟩
   have hq:q<2 ^ s:=by omega
   rw[zJ (f:=λx=>rch (2 ^ s+q) x) (g:=rch q) _ λx hx=>Jh hq (meml x hx),zJ (f:=λx=>rch (2 ^ s+q) (2 ^ s+x)) (g:=rch q) _ λx hx=>JW hq (memu x hx)];rw[<-ZR (rch q) (λx=>S (2 ^ s+x)) sp];rw[vW (show ¬ (2 ^ s+q)∈(List.range (2 ^ s)).filter _ by intro z;have:=wF.mp (List.mem_filter.mp z).1;omega),wc];rw[zJ (f:=λx=>decide (2 ^ s+x=2 ^ s+q)) (g:=λx=>decide (x=q)) pl λx _=>by simp,t.sum q hq];simp
theorem open_one{S:Nat->Bool}(h:S 0=true):Open 0 S 0 λ_=>true:=
 ⟨λq hq=>by omega,rfl,λt ht hS=>by
  have:t=0:=by omega
  subst this;rw[h]at hS;cases hS⟩
theorem open_second{s P:Nat}{S c:Nat->Bool}(o:Open s (λt=>S t&&S (t+2 ^ s)) P c):Open (s+1) S (2 ^ s+P) λq=>if q<2 ^ s then false else c (q-2 ^ s):=by
 have p2:=pw s;refine⟨λq h'=>?_,?_,λt ht hS=>?_⟩
 ·split
  ·rfl
  ·exact o.c1 _ (by omega)
 ·rw[if_neg (by omega),wI];exact o.c2
 ·have w1:∀t,t<2 ^ s->wd s (λq=>if q<2 ^ s then false else c (q-2 ^ s)) t=false:=λt ht=>by
   rw[wd_congr s _ (λ_=>false) t (λq hq=>by rw[if_pos hq]) ht,Qe s _ t ht,qV _ _ (λ_=>false) (λq _=>by rw[vD]),zM]
  have w2:∀t,t<2 ^ s->wd s (λq=>if 2 ^ s+q<2 ^ s then false else c (2 ^ s+q-2 ^ s)) t=wd s c t:=λt ht=>wd_congr s _ _ t (λq hq=>by rw[if_neg (by omega),wI]) ht;rw[wd];split
  ·rename_i ht';rw[w1 t ht',w2 t ht',wc];exact o.c3 t ht' (by rw[hS];rfl)
  ·rename_i ht';rw[w2 (t-2 ^ s) (by omega)];exact o.c3 _ (by omega) (by rw[show t-2 ^ s+2 ^ s=t by omega,hS,wb])
noncomputable def hid(s:Nat)(S c:Nat->Bool)(t:Nat):Bool:=if S t then false else wd s c t
theorem open_first{s P:Nat}{S c:Nat->Bool}(hP:P<2 ^ s)(o:Open s (λt=>S t||S (t+2 ^ s)) P c):Open (s+1) S P λq=>if q<2 ^ s then c q else wd s (hid s S c) (q-2 ^ s):=by
 have p2:=pw s;refine⟨λq h'=>?_,?_,λt ht hS=>?_⟩
 ·rw[if_pos (by omega)];exact o.c1 q h'
 ·rw[if_pos hP];exact o.c2
 ·have w1:∀t,t<2 ^ s->wd s (λq=>if q<2 ^ s then c q else wd s (hid s S c) (q-2 ^ s)) t=wd s c t:=λt ht=>wd_congr s _ _ t (λq hq=>by rw[if_pos hq]) ht;have w2:∀t,t<2 ^ s->wd s (λq=>if 2 ^ s+q<2 ^ s then c (2 ^ s+q) else wd s (hid s S c) (2 ^ s+q-2 ^ s)) t=hid s S c t:=λt ht=>by
   rw[wd_congr s _ (wd s (hid s S c)) t (λq hq=>by rw[if_neg (by omega),wI]) ht,S1 s _ t ht]
  rw[wd];split
  ·rename_i ht';rw[w1 t ht',w2 t ht'];unfold hid;rw[hS];simp
  ·rename_i ht';rw[w2 (t-2 ^ s) (by omega)];unfold hid;cases e:S (t-2 ^ s) with
   |true=>rfl
   |false=>
    rw[if_neg (by decide)];exact o.c3 _ (by omega) (by rw[e,show t-2 ^ s+2 ^ s=t by omega,hS];rfl)
end GF
namespace My
open PySem PySem.Spec PyProof.Rows L2 PI
noncomputable def top(i:Nat):Stmt:=PySem.Challenge.pw_healhalves_k18_papers_told.main.body.getD i (.Pass ⟨0,0,0,0⟩)
noncomputable def Tb:Tbl:=⟨[⟨"is_whole",top 9,["thing"],["thing"]⟩,
 ⟨"is_number_below",top 10,["thing","end"],["thing","end"]⟩,
 ⟨"is_rising",top 11,["thing","end"],["thing","end","least","number"]⟩,
 ⟨"has_form",top 12,["paper","word","parts"],["paper","word","parts"]⟩,
 ⟨"length_of",top 13,["size"],["size"]⟩,
 ⟨"is_size",top 14,["thing"],["thing"]⟩,
 ⟨"check_size",top 15,["size"],["size"]⟩,
 ⟨"check_place",top 16,["size","number"],["size","number"]⟩,
 ⟨"check_loss",top 18,["size","loss"],["size","loss"]⟩,
 ⟨"halves_below",top 19,["half","loss"],["half","loss","either","both"]⟩,
 ⟨"is_sign",top 21,["thing"],["thing"]⟩,
 ⟨"is_row",top 22,["thing","length"],["thing","length"]⟩,
 ⟨"sum_of",top 23,["signs"],["signs"]⟩,
 ⟨"added",top 24,["one","other"],["one","other"]⟩,
 ⟨"word_of",top 26,["core"],["core"]⟩,
 ⟨"is_core",top 27,["thing"],["thing"]⟩,
 ⟨"halved_word",top 28,["row"],["row","half","first","second"]⟩,
 ⟨"is_reached",top 29,["place","spot"],["place","spot"]⟩,
 ⟨"paper_on",top 31,["size","loss","place"],["size","loss","place"]⟩,
 ⟨"paper_below",top 32,["length","loss","place"],["length","loss","place","half","halves"]⟩,
 ⟨"first_paper",top 33,["half","loss","paper"],["half","loss","paper"]⟩,
 ⟨"second_paper",top 34,["half","loss","paper"],["half","loss","paper"]⟩,
 ⟨"first_told",top 35,["half","spots","places"],["half","spots","places"]⟩,
 ⟨"first_unsure",top 36,["half","loss","core"],["half","loss","core","word","hiding"]⟩,
 ⟨"second_told",top 37,["half","loss","spots","places"],["half","loss","spots","places","upper","lower","ahead"]⟩,
 ⟨"lets_paper",top 39,["size","loss","place","paper"],["size","loss","place","paper","length"]⟩,
 ⟨"lets_told",top 40,["length","loss","place","spots","places"],["length","loss","place","spots","places"]⟩,
 ⟨"sums_to",top 41,["length","place","spots","places"],["length","place","spots","places"]⟩,
 ⟨"sum_at",top 42,["place","spots","places"],["place","spots","places"]⟩,
 ⟨"lets_unsure",top 43,["length","loss","place","core"],["length","loss","place","core","word"]⟩,
 ⟨"_law_begun",top 45,["_law_script","_law_k"],["_law_script","_law_k","_law_cell","_law_number","_law_mixed"]⟩,
 ⟨"_law_take",top 46,["_law_state","_law_many"],["_law_state","_law_many","_law_digit","_law_made","_law_turn"]⟩,
 ⟨"_law_loss",top 47,["_law_state","_law_many"],["_law_state","_law_many","_law_way","_law_bound"]⟩,
 ⟨"_law_lost",top 48,["_law_lost_here"],["_law_lost_here","_law_half","_law_either","_law_both"]⟩,
 ⟨"_law_word",top 49,["_law_core"],["_law_core","_law_found","_law_spot"]⟩,
 ⟨"_law_rising",top 50,["_law_thing","_law_low","_law_high"],["_law_thing","_law_low","_law_high"]⟩,
 ⟨"_law_sums",top 51,["_law_many","_law_spots","_law_places","_law_place"],["_law_many","_law_spots","_law_places","_law_place","_law_one","_law_often"]⟩,
 ⟨"_law_is_paper",top 52,["_law_many","_law_loss_here","_law_place","_law_lost_here","_law_paper"],["_law_many","_law_loss_here","_law_place","_law_lost_here","_law_paper","_law_core","_law_word_here"]⟩,
 ⟨"law",top 53,["_law_script"],["_law_script","_law_k","_law_state","_law_size","_law_many","_law_loss_here","_law_lost_here","_law_place","_law_handed","_law_paper","_law_kept"]⟩],
 [("LENGTHS",E.glob 0),("GREATEST_SIZE",E.cst (.int 5))],
 ["len","sum","all","any","max","min","list","int","tuple","range","zip","isinstance","bool","str","repr","ValueError"],[],[]⟩
noncomputable def gs:List O:=[O.tup [V.int 1,V.int 2,V.int 4,V.int 8,V.int 16,V.int 32]]
end My
namespace My
open PySem PySem.Spec PI
open L2 (V)
open GF (Ris lp rch qg Told Open wd par)
noncomputable def b0:Ss:=(.cons (.ret (.and (.isi (.var 0) ["int"]) (.not (.isi (.var 0) ["bool"])))) .nil)
noncomputable def b1:Ss:=(.cons (.ret (.and (.call 0 (.cons (.var 0) .nil)) (.cmp2 .le .lt (nE 0) (.var 0) (.var 1)))) .nil)
noncomputable def qDb:Ss:=(.cons (.ifs (.or (.not (.call 1 (.cons (.var 3) (.cons (.var 1) .nil)))) (.cmp .lt (.var 3) (.var 2))) (.cons (.ret (.cst (V.bl false))) .nil) .nil) (.cons (.asg (.name 2) (.bin .add (.var 3) (nE 1))) .nil))
noncomputable def b2:Ss:=(.cons (.ifs (.not (.isi (.var 0) ["list"])) (.cons (.ret (.cst (V.bl false))) .nil) .nil) (.cons (.asg (.name 2) (nE 0)) (.cons (.for_ (.name 3) (.list (.var 0)) qDb) (.cons (.ret (.cst (V.bl true))) .nil))))
noncomputable def b3:Ss:=(.cons (.ifs (.or (.not (.isi (.var 0) ["tuple"])) (.cmp .ne (.blt .len (.cons (.var 0) .nil)) (.var 2))) (.cons (.ret (.cst (V.bl false))) .nil) .nil) (.cons (.ret (.and (.isi (.idx (.var 0) (nE 0)) ["str"]) (.cmp .eq (.idx (.var 0) (nE 0)) (.var 1)))) .nil))
noncomputable def b4:Ss:=(.cons (.ret (.idx (.glob 0) (.var 0))) .nil)
noncomputable def b5:Ss:=(.cons (.ret (.and (.call 0 (.cons (.var 0) .nil)) (.cmp2 .le .le (nE 1) (.var 0) (nE 5)))) .nil)
noncomputable def b6:Ss:=(.cons (.ifs (.not (.call 5 (.cons (.var 0) .nil))) (.cons .stop .nil) .nil) .nil)
noncomputable def b7:Ss:=(.cons (.ifs (.not (.call 1 (.cons (.var 1) (.cons (.call 4 (.cons (.var 0) .nil)) .nil)))) (.cons .stop .nil) .nil) .nil)
noncomputable def b8:Ss:=(.cons (.ifs (.not (.call 2 (.cons (.var 1) (.cons (.call 4 (.cons (.var 0) .nil)) .nil)))) (.cons .stop .nil) .nil) .nil)
noncomputable def b9:Ss:=(.cons (.asg (.name 2) (.comp (.rng1 (.var 0)) [none,some 0,some 1] (.name 0) (.cons (.or (.cmp .inn (.var 0) (.var 2)) (.cmp .inn (.bin .add (.var 0) (.var 1)) (.var 2))) .nil) (.var 0))) (.cons (.asg (.name 3) (.comp (.rng1 (.var 0)) [none,some 0,some 1] (.name 0) (.cons (.and (.cmp .inn (.var 0) (.var 2)) (.cmp .inn (.bin .add (.var 0) (.var 1)) (.var 2))) .nil) (.var 0))) (.cons (.ret (.tup (.cons (.var 2) (.cons (.var 3) .nil)))) .nil)))
noncomputable def b10:Ss:=(.cons (.ret (.call 1 (.cons (.var 0) (.cons (nE 2) .nil)))) .nil)
noncomputable def b11:Ss:=(.cons (.ret (.and (.isi (.var 0) ["list"]) (.and (.cmp .eq (.blt .len (.cons (.var 0) .nil)) (.var 1)) (.blt .all (.cons (.comp (.list (.var 0)) [none] (.name 0) .nil (.call 10 (.cons (.var 0) .nil))) .nil))))) .nil)
noncomputable def b12:Ss:=(.cons (.ret (.bin .mod (.blt .sum (.cons (.var 0) .nil)) (nE 2))) .nil)
noncomputable def b13:Ss:=(.cons (.ret (.comp (.zip (.var 0) (.var 1)) [none,none] (.tup [0,1]) .nil (.call 12 (.cons (.lst (.cons (.var 0) (.cons (.var 1) .nil))) .nil)))) .nil)
noncomputable def b14:Ss:=(.cons (.ifs (.not (.call 15 (.cons (.var 0) .nil))) (.cons .stop .nil) .nil) (.cons (.ret (.call 16 (.cons (.var 0) .nil))) .nil))
noncomputable def b15:Ss:=(.cons (.ret (.blt .any (.cons (.comp (.rng2 (nE 1) (.bin .add (nE 5) (nE 1))) [none,some 0] (.name 0) .nil (.call 11 (.cons (.var 1) (.cons (.call 4 (.cons (.var 0) .nil)) .nil)))) .nil))) .nil)
noncomputable def b16:Ss:=(.cons (.ifs (.cmp .eq (.blt .len (.cons (.var 0) .nil)) (nE 1)) (.cons (.ret (.blt .list (.cons (.var 0) .nil))) .nil) .nil) (.cons (.asg (.name 1) (.bin .fdiv (.blt .len (.cons (.var 0) .nil)) (nE 2))) (.cons (.asg (.name 2) (.call 16 (.cons (.sl (.var 0) .nil (.cons (.var 1) .nil)) .nil))) (.cons (.asg (.name 3) (.call 16 (.cons (.sl (.var 0) (.cons (.var 1) .nil) .nil) .nil))) (.cons (.ret (.bin .add (.call 13 (.cons (.var 2) (.cons (.var 3) .nil))) (.var 3))) .nil)))))
noncomputable def b17:Ss:=(.cons (.ret (.cmp .eq (.bin .band (.var 0) (.var 1)) (.var 1))) .nil)
noncomputable def b18:Ss:=(.cons (.expr (.call 6 (.cons (.var 0) .nil))) (.cons (.expr (.call 8 (.cons (.var 0) (.cons (.var 1) .nil)))) (.cons (.expr (.call 7 (.cons (.var 0) (.cons (.var 2) .nil)))) (.cons (.ret (.call 19 (.cons (.call 4 (.cons (.var 0) .nil)) (.cons (.var 1) (.cons (.var 2) .nil))))) .nil))))
noncomputable def qFI:Ss:=(.cons (.ifs (.cmp .eq (.var 0) (nE 1)) (.cons (.ret (.ite (.cmp .eq (.var 1) (.lst .nil)) (.tup (.cons (.cst (V.str "told")) (.cons (.lst (.cons (nE 0) .nil)) (.cons (.lst .nil) .nil)))) (.tup (.cons (.cst (V.str "open")) (.cons (.lst (.cons (nE 1) .nil)) .nil))))) .nil) .nil) (.cons (.asg (.name 3) (.bin .fdiv (.var 0) (nE 2))) (.cons (.asg (.name 4) (.call 9 (.cons (.var 3) (.cons (.var 1) .nil)))) (.cons (.ifs (.cmp .lt (.var 2) (.var 3)) (.cons (.ret (.call 20 (.cons (.var 3) (.cons (.var 1) (.cons (.call 19 (.cons (.var 3) (.cons (.idx (.var 4) (nE 0)) (.cons (.var 2) .nil)))) .nil))))) .nil) .nil) (.cons (.ret (.call 21 (.cons (.var 3) (.cons (.var 1) (.cons (.call 19 (.cons (.var 3) (.cons (.idx (.var 4) (nE 1)) (.cons (.bin .sub (.var 2) (.var 3)) .nil)))) .nil))))) .nil)))))
noncomputable def b20:Ss:=(.cons (.ifs (.cmp .eq (.idx (.var 2) (nE 0)) (.cst (V.str "told"))) (.cons (.ret (.call 22 (.cons (.var 0) (.cons (.idx (.var 2) (nE 1)) (.cons (.idx (.var 2) (nE 2)) .nil))))) .nil) .nil) (.cons (.ret (.call 23 (.cons (.var 0) (.cons (.var 1) (.cons (.idx (.var 2) (nE 1)) .nil))))) .nil))
noncomputable def b21:Ss:=(.cons (.ifs (.cmp .eq (.idx (.var 2) (nE 0)) (.cst (V.str "told"))) (.cons (.ret (.call 24 (.cons (.var 0) (.cons (.var 1) (.cons (.idx (.var 2) (nE 1)) (.cons (.idx (.var 2) (nE 2)) .nil)))))) .nil) .nil) (.cons (.ret (.tup (.cons (.cst (V.str "open")) (.cons (.bin .add (.bin .mul (.lst (.cons (nE 0) .nil)) (.var 0)) (.idx (.var 2) (nE 1))) .nil)))) .nil))
noncomputable def b22:Ss:=(.cons (.ret (.tup (.cons (.cst (V.str "told")) (.cons (.bin .add (.var 1) (.comp (.list (.var 1)) [none,some 0] (.name 0) .nil (.bin .add (.var 1) (.var 0)))) (.cons (.var 2) .nil))))) .nil)
noncomputable def b23:Ss:=(.cons (.asg (.name 3) (.call 16 (.cons (.var 2) .nil))) (.cons (.asg (.name 4) (.comp (.rng1 (.var 0)) [none,some 1,some 3] (.name 0) .nil (.ite (.cmp .inn (.var 0) (.var 1)) (nE 0) (.idx (.var 2) (.var 0))))) (.cons (.ret (.tup (.cons (.cst (V.str "open")) (.cons (.bin .add (.var 2) (.call 16 (.cons (.var 4) .nil))) .nil)))) .nil)))
noncomputable def b24:Ss:=(.cons (.asg (.name 4) (.comp (.list (.var 2)) [none,some 0,some 1] (.name 0) (.cons (.cmp .notin (.bin .add (.var 1) (.var 0)) (.var 2)) .nil) (.bin .add (.var 1) (.var 0)))) (.cons (.asg (.name 5) (.comp (.list (.var 2)) [none,some 0,some 1] (.name 0) (.cons (.cmp .inn (.bin .add (.var 1) (.var 0)) (.var 2)) .nil) (.var 0))) (.cons (.asg (.name 6) (.comp (.rng1 (.var 0)) [none,some 5] (.name 0) (.cons (.cmp .eq (.call 12 (.cons (.comp (.list (.var 1)) [none,some 0] (.name 0) (.cons (.call 17 (.cons (.var 1) (.cons (.var 0) .nil))) .nil) (nE 1)) .nil)) (nE 1)) .nil) (.var 0))) (.cons (.ret (.tup (.cons (.cst (V.str "told")) (.cons (.bin .add (.var 5) (.var 4)) (.cons (.bin .add (.var 6) (.comp (.list (.var 3)) [none,some 0] (.name 0) .nil (.bin .add (.var 1) (.var 0)))) .nil))))) .nil))))
noncomputable def b25:Ss:=(.cons (.expr (.call 6 (.cons (.var 0) .nil))) (.cons (.expr (.call 8 (.cons (.var 0) (.cons (.var 1) .nil)))) (.cons (.expr (.call 7 (.cons (.var 0) (.cons (.var 2) .nil)))) (.cons (.asg (.name 4) (.call 4 (.cons (.var 0) .nil))) (.cons (.ifs (.call 3 (.cons (.var 3) (.cons (.cst (V.str "told")) (.cons (nE 3) .nil)))) (.cons (.ret (.call 26 (.cons (.var 4) (.cons (.var 1) (.cons (.var 2) (.cons (.idx (.var 3) (nE 1)) (.cons (.idx (.var 3) (nE 2)) .nil))))))) .nil) .nil) (.cons (.ifs (.call 3 (.cons (.var 3) (.cons (.cst (V.str "open")) (.cons (nE 2) .nil)))) (.cons (.ret (.call 29 (.cons (.var 4) (.cons (.var 1) (.cons (.var 2) (.cons (.idx (.var 3) (nE 1)) .nil)))))) .nil) .nil) (.cons (.ret (.cst (V.bl false))) .nil)))))))
noncomputable def b26:Ss:=(.cons (.ifs (.or (.not (.call 2 (.cons (.var 3) (.cons (.var 0) .nil)))) (.not (.call 2 (.cons (.var 4) (.cons (.var 2) .nil))))) (.cons (.ret (.cst (V.bl false))) .nil) .nil) (.cons (.ret (.and (.not (.blt .any (.cons (.comp (.list (.var 3)) [none,some 1] (.name 0) .nil (.cmp .inn (.var 0) (.var 1))) .nil))) (.call 27 (.cons (.var 0) (.cons (.var 2) (.cons (.var 3) (.cons (.var 4) .nil))))))) .nil))
noncomputable def b27:Ss:=(.cons (.ret (.blt .all (.cons (.comp (.rng1 (.var 0)) [none,some 1,some 3,some 2] (.name 0) .nil (.cmp .eq (.call 28 (.cons (.var 0) (.cons (.var 3) (.cons (.var 2) .nil)))) (.ite (.cmp .eq (.var 0) (.var 1)) (nE 1) (nE 0)))) .nil))) .nil)
noncomputable def b28:Ss:=(.cons (.ret (.call 12 (.cons (.bin .add (.comp (.list (.var 1)) [none,some 0] (.name 0) (.cons (.call 17 (.cons (.var 1) (.cons (.var 0) .nil))) .nil) (nE 1)) (.comp (.list (.var 2)) [none,some 0] (.name 0) (.cons (.cmp .eq (.var 0) (.var 1)) .nil) (nE 1))) .nil))) .nil)
noncomputable def b29:Ss:=(.cons (.ifs (.or (.not (.call 11 (.cons (.var 3) (.cons (.var 0) .nil)))) (.or (.cmp .inn (nE 1) (.sl (.var 3) .nil (.cons (.var 2) .nil))) (.cmp .eq (.idx (.var 3) (.var 2)) (nE 0)))) (.cons (.ret (.cst (V.bl false))) .nil) .nil) (.cons (.asg (.name 4) (.call 14 (.cons (.var 3) .nil))) (.cons (.ret (.blt .all (.cons (.comp (.rng1 (.var 0)) [none,some 1,some 4] (.name 0) (.cons (.cmp .notin (.var 0) (.var 1)) .nil) (.cmp .eq (.idx (.var 2) (.var 0)) (nE 0))) .nil))) .nil)))
noncomputable def b30:Ss:=(.cons (.asg (.name 2) (.idx (.bin .add (.sl (.var 0) (.cons (.var 1) .nil) (.cons (.bin .add (.var 1) (nE 1)) .nil)) (.lst (.cons (nE 0) .nil))) (nE 0))) (.cons (.asg (.name 3) (.blt .max (.cons (.var 2) (.cons (.bin .sub (.neg (nE 1)) (.var 2)) .nil)))) (.cons (.asg (.name 4) (.bin .mod (.bin .add (.bin .add (.bin .add (.bin .mod (.var 3) (nE 2147483629)) (.bin .mul (nE 7919) (.var 1))) (.bin .mul (.bin .mul (nE 104729) (.var 1)) (.var 1))) (nE 11)) (nE 2147483629))) (.cons (.ret (.lst (.cons (.var 3) (.cons (.var 4) (.cons (.cmp .ge (.var 3) (.bin .pow (nE 10) (nE 18))) .nil))))) .nil))))
noncomputable def qCK:Ss:=(.cons (.put (.var 0) (nE 1) (.bin .mod (.bin .add (.bin .mul (.idx (.var 0) (nE 1)) (nE 48271)) (nE 11)) (nE 2147483647))) (.cons (.asg (.name 3) (.bin .add (.bin .mul (.var 3) (nE 2147483587)) (.bin .mod (.bin .mul (.idx (.var 0) (nE 1)) (.idx (.var 0) (nE 1))) (nE 2147483587)))) .nil))
noncomputable def b31:Ss:=(.cons (.ifs (.idx (.var 0) (nE 2)) (.cons (.asg (.name 2) (.bin .mod (.idx (.var 0) (nE 0)) (.var 1))) (.cons (.put (.var 0) (nE 0) (.bin .fdiv (.idx (.var 0) (nE 0)) (.var 1))) (.cons (.put (.var 0) (nE 2) (.cmp .gt (.idx (.var 0) (nE 0)) (nE 0))) (.cons (.ret (.var 2)) .nil)))) .nil) (.cons (.asg (.name 3) (nE 0)) (.cons (.for_ (.name 4) (.rng1 (.bin .add (nE 1) (.blt .int (.cons (.cmp .gt (.var 1) (.bin .pow (nE 10) (nE 6))) .nil)))) qCK) (.cons (.ret (.bin .mod (.bin .fdiv (.var 3) (nE 64)) (.var 1))) .nil))))
noncomputable def b32:Ss:=(.cons (.asg (.name 2) (.call 31 (.cons (.var 0) (.cons (nE 6) .nil)))) (.cons (.ifs (.cmp .eq (.var 2) (nE 0)) (.cons (.ret (.lst .nil)) .nil) .nil) (.cons (.ifs (.cmp .eq (.var 2) (nE 1)) (.cons (.ret (.lrng (.var 1))) .nil) .nil) (.cons (.asg (.name 3) (.idx (.lst (.cons (nE 2) (.cons (nE 3) (.cons (nE 4) (.cons (nE 8) .nil))))) (.bin .sub (.var 2) (nE 2)))) (.cons (.ret (.comp (.rng1 (.var 1)) [none,some 3,some 0] (.name 0) (.cons (.cmp .eq (.call 31 (.cons (.var 2) (.cons (.var 1) .nil))) (nE 0)) .nil) (.var 0))) .nil)))))
noncomputable def b33:Ss:=(.cons (.ifs (.cmp .eq (.blt .len (.cons (.var 0) .nil)) (nE 1)) (.cons (.ret (.blt .list (.cons (.var 0) .nil))) .nil) .nil) (.cons (.asg (.name 1) (.bin .fdiv (.blt .len (.cons (.var 0) .nil)) (nE 2))) (.cons (.asg (.name 2) (.comp (.rng1 (.var 1)) [none,some 1,some 0] (.name 0) .nil (.or (.idx (.var 2) (.var 0)) (.idx (.var 2) (.bin .add (.var 0) (.var 1)))))) (.cons (.asg (.name 3) (.comp (.rng1 (.var 1)) [none,some 1,some 0] (.name 0) .nil (.and (.idx (.var 2) (.var 0)) (.idx (.var 2) (.bin .add (.var 0) (.var 1)))))) (.cons (.ret (.bin .add (.call 33 (.cons (.var 2) .nil)) (.call 33 (.cons (.var 3) .nil)))) .nil)))))
noncomputable def Z4:Ss:=(.cons (.expr (.app (.var 1) (.bin .mod (.blt .sum (.cons (.comp (.rng1 (.blt .len (.cons (.var 0) .nil))) [none,some 0,some 2] (.name 0) (.cons (.cmp .eq (.bin .band (.var 0) (.var 2)) (.var 2)) .nil) (.idx (.var 1) (.var 0))) .nil)) (nE 2)))) .nil)
noncomputable def b34:Ss:=(.cons (.asg (.name 1) (.lst .nil)) (.cons (.for_ (.name 2) (.rng1 (.blt .len (.cons (.var 0) .nil))) Z4) (.cons (.ret (.var 1)) .nil)))
noncomputable def b35:Ss:=(.cons (.ifs (.not (.isi (.var 0) ["list"])) (.cons (.ret (.cst (V.bl false))) .nil) .nil) (.cons (.ifs (.cmp .ne (.comp (.list (.var 0)) [none] (.name 0) (.cons (.or (.not (.isi (.var 0) ["int"])) (.isi (.var 0) ["bool"])) .nil) (.var 0)) (.lst .nil)) (.cons (.ret (.cst (V.bl false))) .nil) .nil) (.cons (.ret (.cmp .eq (.var 0) (.comp (.rng2 (.var 1) (.var 2)) [none,some 0] (.name 0) (.cons (.cmp .inn (.var 0) (.var 1)) .nil) (.var 0)))) .nil)))
noncomputable def X3:Ss:=(.cons (.asg (.name 5) (.bin .add (.blt .len (.cons (.comp (.list (.var 1)) [none,some 4] (.name 0) (.cons (.cmp .eq (.bin .band (.var 1) (.var 0)) (.var 0)) .nil) (.var 0)) .nil)) (.blt .int (.cons (.cmp .inn (.var 4) (.var 2)) .nil)))) (.cons (.ifs (.cmp .ne (.bin .mod (.var 5) (nE 2)) (.blt .int (.cons (.cmp .eq (.var 4) (.var 3)) .nil))) (.cons (.ret (.cst (V.bl false))) .nil) .nil) .nil))
noncomputable def b36:Ss:=(.cons (.for_ (.name 4) (.rng1 (.var 0)) X3) (.cons (.ret (.cst (V.bl true))) .nil))
noncomputable def b37:Ss:=(.cons (.ifs (.or (.not (.isi (.var 4) ["tuple"])) (.cmp .ne (.blt .len (.cons (.var 4) .nil)) (.idx (.lst (.cons (nE 3) (.cons (nE 2) .nil))) (.blt .int (.cons (.var 3) .nil))))) (.cons (.ret (.cst (V.bl false))) .nil) .nil) (.cons (.ifs (.cmp .ne (.idx (.var 4) (nE 0)) (.idx (.lst (.cons (.cst (V.str "told")) (.cons (.cst (V.str "open")) .nil))) (.blt .int (.cons (.var 3) .nil)))) (.cons (.ret (.cst (V.bl false))) .nil) .nil) (.cons (.ifs (.not (.var 3)) (.cons (.ifs (.or (.not (.call 35 (.cons (.idx (.var 4) (nE 1)) (.cons (nE 0) (.cons (.var 0) .nil))))) (.not (.call 35 (.cons (.idx (.var 4) (nE 2)) (.cons (nE 0) (.cons (.var 2) .nil)))))) (.cons (.ret (.cst (V.bl false))) .nil) .nil) (.cons (.ret (.and (.cmp .eq (.comp (.list (.idx (.var 4) (nE 1))) [none,some 1] (.name 0) (.cons (.cmp .inn (.var 0) (.var 1)) .nil) (.var 0)) (.lst .nil)) (.call 36 (.cons (.var 0) (.cons (.idx (.var 4) (nE 1)) (.cons (.idx (.var 4) (nE 2)) (.cons (.var 2) .nil))))))) .nil)) .nil) (.cons (.asg (.name 5) (.idx (.var 4) (nE 1))) (.cons (.ifs (.not (.isi (.var 5) ["list"])) (.cons (.ret (.cst (V.bl false))) .nil) .nil) (.cons (.ifs (.cmp .ne (.comp (.list (.var 5)) [none] (.name 0) (.cons (.or (.isi (.var 0) ["bool"]) (.cmp .notin (.var 0) (.tup (.cons (nE 0) (.cons (nE 1) .nil))))) .nil) (.var 0)) (.lst .nil)) (.cons (.ret (.cst (V.bl false))) .nil) .nil) (.cons (.ifs (.or (.cmp .ne (.blt .len (.cons (.var 5) .nil)) (.var 0)) (.cmp .ne (.sl (.var 5) .nil (.cons (.bin .add (.var 2) (nE 1)) .nil)) (.bin .add (.bin .mul (.lst (.cons (nE 0) .nil)) (.var 2)) (.lst (.cons (nE 1) .nil))))) (.cons (.ret (.cst (V.bl false))) .nil) .nil) (.cons (.asg (.name 6) (.call 34 (.cons (.var 5) .nil))) (.cons (.ret (.cmp .eq (.comp (.rng1 (.var 0)) [none,some 1,some 6] (.name 0) (.cons (.and (.cmp .eq (.idx (.var 2) (.var 0)) (nE 1)) (.cmp .notin (.var 0) (.var 1))) .nil) (.var 0)) (.lst .nil))) .nil)))))))))
noncomputable def T0:Ss:=(.cons (.asg (.name 8) (.blt .list (.cons (.var 5) .nil))) (.cons (.asg (.name 9) (.call 18 (.cons (.var 3) (.cons (.var 8) (.cons (.var 7) .nil))))) (.cons (.ifs (.or (.not (.call 37 (.cons (.var 4) (.cons (.var 5) (.cons (.var 7) (.cons (.idx (.var 6) (.var 7)) (.cons (.var 9) .nil))))))) (.cmp .ne (.var 8) (.var 5))) (.cons (.ret (.cst (V.bl false))) .nil) .nil) (.cons (.ifs (.cmp .isnot (.call 25 (.cons (.var 3) (.cons (.var 8) (.cons (.var 7) (.cons (.var 9) .nil))))) (.cst (V.bl true))) (.cons (.ret (.cst (V.bl false))) .nil) .nil) (.cons (.asg (.name 10) (.blt .repr (.cons (.var 9) .nil))) (.cons (.expr (.app (.idx (.var 9) (nE 1)) (nE 0))) (.cons (.expr (.app (.idx (.var 9) (.neg (nE 1))) (nE 0))) (.cons (.ifs (.cmp .ne (.blt .repr (.cons (.call 18 (.cons (.var 3) (.cons (.var 8) (.cons (.var 7) .nil)))) .nil)) (.var 10)) (.cons (.ret (.cst (V.bl false))) .nil) .nil) .nil))))))))
noncomputable def Y3:Ss:=(.cons (.asg (.name 2) (.call 30 (.cons (.var 0) (.cons (.var 1) .nil)))) (.cons (.asg (.name 3) (.bin .add (nE 1) (.call 31 (.cons (.var 2) (.cons (nE 5) .nil))))) (.cons (.asg (.name 4) (.idx (.lst (.cons (nE 1) (.cons (nE 2) (.cons (nE 4) (.cons (nE 8) (.cons (nE 16) (.cons (nE 32) .nil))))))) (.var 3))) (.cons (.asg (.name 5) (.call 32 (.cons (.var 2) (.cons (.var 4) .nil)))) (.cons (.asg (.name 6) (.call 33 (.cons (.comp (.rng1 (.var 4)) [none,some 5] (.name 0) .nil (.cmp .inn (.var 0) (.var 1))) .nil))) (.cons (.for_ (.name 7) (.list (.lst (.cons (.call 31 (.cons (.var 2) (.cons (.var 4) .nil))) (.cons (.call 31 (.cons (.var 2) (.cons (.var 4) .nil))) .nil)))) T0) .nil))))))
noncomputable def b38:Ss:=(.cons (.for_ (.name 1) (.rng1 (.blt .max (.cons (nE 1) (.cons (.blt .min (.cons (nE 40) (.cons (.blt .len (.cons (.var 0) .nil)) .nil))) .nil)))) Y3) (.cons (.ret (.cst (V.bl true))) .nil))
noncomputable def x22:Ss:=(.cons (.rett (.cons (.cst (V.str "told")) (.cons (.bin .add (.var 1) (.comp (.list (.var 1)) [none,some 0] (.name 0) .nil (.bin .add (.var 1) (.var 0)))) (.cons (.var 2) .nil)))) .nil)
noncomputable def x24:Ss:=(.cons (.asg (.name 4) (.comp (.list (.var 2)) [none,some 0,some 1] (.name 0) (.cons (.cmp .notin (.bin .add (.var 1) (.var 0)) (.var 2)) .nil) (.bin .add (.var 1) (.var 0)))) (.cons (.asg (.name 5) (.comp (.list (.var 2)) [none,some 0,some 1] (.name 0) (.cons (.cmp .inn (.bin .add (.var 1) (.var 0)) (.var 2)) .nil) (.var 0))) (.cons (.asg (.name 6) (.comp (.rng1 (.var 0)) [none,some 5] (.name 0) (.cons (.cmp .eq (.call 12 (.cons (.comp (.list (.var 1)) [none,some 0] (.name 0) (.cons (.call 17 (.cons (.var 1) (.cons (.var 0) .nil))) .nil) (nE 1)) .nil)) (nE 1)) .nil) (.var 0))) (.cons (.rett (.cons (.cst (V.str "told")) (.cons (.bin .add (.var 5) (.var 4)) (.cons (.bin .add (.var 6) (.comp (.list (.var 3)) [none,some 0] (.name 0) .nil (.bin .add (.var 1) (.var 0)))) .nil)))) .nil))))
noncomputable def x20:Ss:=(.cons (.ifs (.cmp .eq (.idx (.var 2) (nE 0)) (.cst (V.str "told"))) (.cons (.inl 22 3 x22 (.cons (.var 0) (.cons (.idx (.var 2) (nE 1)) (.cons (.idx (.var 2) (nE 2)) .nil)))) .nil) .nil) (.cons (.ret (.call 23 (.cons (.var 0) (.cons (.var 1) (.cons (.idx (.var 2) (nE 1)) .nil))))) .nil))
noncomputable def x21:Ss:=(.cons (.ifs (.cmp .eq (.idx (.var 2) (nE 0)) (.cst (V.str "told"))) (.cons (.inl 24 7 x24 (.cons (.var 0) (.cons (.var 1) (.cons (.idx (.var 2) (nE 1)) (.cons (.idx (.var 2) (nE 2)) .nil))))) .nil) .nil) (.cons (.ret (.tup (.cons (.cst (V.str "open")) (.cons (.bin .add (.bin .mul (.lst (.cons (nE 0) .nil)) (.var 0)) (.idx (.var 2) (nE 1))) .nil)))) .nil))
noncomputable def b19:Ss:=(.cons (.ifs (.cmp .eq (.var 0) (nE 1)) (.cons (.ret (.ite (.cmp .eq (.var 1) (.lst .nil)) (.tup (.cons (.cst (V.str "told")) (.cons (.lst (.cons (nE 0) .nil)) (.cons (.lst .nil) .nil)))) (.tup (.cons (.cst (V.str "open")) (.cons (.lst (.cons (nE 1) .nil)) .nil))))) .nil) .nil) (.cons (.asg (.name 3) (.bin .fdiv (.var 0) (nE 2))) (.cons (.asg (.name 4) (.call 9 (.cons (.var 3) (.cons (.var 1) .nil)))) (.cons (.ifs (.cmp .lt (.var 2) (.var 3)) (.cons (.inl 20 3 x20 (.cons (.var 3) (.cons (.var 1) (.cons (.call 19 (.cons (.var 3) (.cons (.idx (.var 4) (nE 0)) (.cons (.var 2) .nil)))) .nil)))) .nil) .nil) (.cons (.inl 21 3 x21 (.cons (.var 3) (.cons (.var 1) (.cons (.call 19 (.cons (.var 3) (.cons (.idx (.var 4) (nE 1)) (.cons (.bin .sub (.var 2) (.var 3)) .nil)))) .nil)))) .nil)))))
noncomputable def Fs:List Fn:=Tb.fns.set 19 ⟨3,5,b19⟩
theorem o19:Tb.fns[19]?=some ⟨3,5,qFI⟩:=by kernel_rfl
theorem o20:Tb.fns[20]?=some ⟨3,3,b20⟩:=by kernel_rfl
theorem o21:Tb.fns[21]?=some ⟨3,3,b21⟩:=by kernel_rfl
theorem o22:Tb.fns[22]?=some ⟨3,3,b22⟩:=by kernel_rfl
theorem o24:Tb.fns[24]?=some ⟨4,7,b24⟩:=by kernel_rfl
theorem t0:Fs[0]?=some ⟨1,1,b0⟩:=by kernel_rfl
theorem t1:Fs[1]?=some ⟨2,2,b1⟩:=by kernel_rfl
theorem t2:Fs[2]?=some ⟨2,4,b2⟩:=by kernel_rfl
theorem t3:Fs[3]?=some ⟨3,3,b3⟩:=by kernel_rfl
theorem t4:Fs[4]?=some ⟨1,1,b4⟩:=by kernel_rfl
theorem t5:Fs[5]?=some ⟨1,1,b5⟩:=by kernel_rfl
theorem t6:Fs[6]?=some ⟨1,1,b6⟩:=by kernel_rfl
theorem t7:Fs[7]?=some ⟨2,2,b7⟩:=by kernel_rfl
theorem t8:Fs[8]?=some ⟨2,2,b8⟩:=by kernel_rfl
theorem t9:Fs[9]?=some ⟨2,4,b9⟩:=by kernel_rfl
theorem t10:Fs[10]?=some ⟨1,1,b10⟩:=by kernel_rfl
theorem t11:Fs[11]?=some ⟨2,2,b11⟩:=by kernel_rfl
theorem t12:Fs[12]?=some ⟨1,1,b12⟩:=by kernel_rfl
theorem t13:Fs[13]?=some ⟨2,2,b13⟩:=by kernel_rfl
theorem t14:Fs[14]?=some ⟨1,1,b14⟩:=by kernel_rfl
theorem t15:Fs[15]?=some ⟨1,1,b15⟩:=by kernel_rfl
theorem t16:Fs[16]?=some ⟨1,4,b16⟩:=by kernel_rfl
theorem t17:Fs[17]?=some ⟨2,2,b17⟩:=by kernel_rfl
theorem t18:Fs[18]?=some ⟨3,3,b18⟩:=by kernel_rfl
theorem t19:Fs[19]?=some ⟨3,5,b19⟩:=by kernel_rfl
theorem t23:Fs[23]?=some ⟨3,5,b23⟩:=by kernel_rfl
theorem t25:Fs[25]?=some ⟨4,5,b25⟩:=by kernel_rfl
theorem t26:Fs[26]?=some ⟨5,5,b26⟩:=by kernel_rfl
theorem t27:Fs[27]?=some ⟨4,4,b27⟩:=by kernel_rfl
theorem t28:Fs[28]?=some ⟨3,3,b28⟩:=by kernel_rfl
theorem t29:Fs[29]?=some ⟨4,5,b29⟩:=by kernel_rfl
theorem t30:Fs[30]?=some ⟨2,5,b30⟩:=by kernel_rfl
theorem t31:Fs[31]?=some ⟨2,5,b31⟩:=by kernel_rfl
theorem t32:Fs[32]?=some ⟨2,4,b32⟩:=by kernel_rfl
theorem t33:Fs[33]?=some ⟨1,4,b33⟩:=by kernel_rfl
theorem t34:Fs[34]?=some ⟨1,3,b34⟩:=by kernel_rfl
theorem t35:Fs[35]?=some ⟨3,3,b35⟩:=by kernel_rfl
theorem t36:Fs[36]?=some ⟨4,6,b36⟩:=by kernel_rfl
theorem t37:Fs[37]?=some ⟨5,7,b37⟩:=by kernel_rfl
theorem t38:Fs[38]?=some ⟨1,11,b38⟩:=by kernel_rfl
theorem ins:Zp Tb.fns b19:=by
 have t1:qAw Tb.fns (.inl 22 3 x22 (.cons (.var 0) (.cons (.idx (.var 2) (nE 1)) (.cons (.idx (.var 2) (nE 2)) .nil)))):=⟨⟨o22,by decide⟩,trivial,trivial⟩
 have t2:qAw Tb.fns (.inl 24 7 x24 (.cons (.var 0) (.cons (.var 1) (.cons (.idx (.var 2) (nE 1)) (.cons (.idx (.var 2) (nE 2)) .nil))))):=⟨⟨o24,by decide⟩,trivial,trivial,trivial,trivial,trivial⟩
 exact⟨⟨⟨trivial,trivial⟩,trivial⟩,trivial,trivial,⟨⟨⟨⟨o20,by decide⟩,⟨⟨t1,trivial⟩,trivial⟩,trivial,trivial⟩,trivial⟩,trivial⟩,⟨⟨o21,by decide⟩,⟨⟨t2,trivial⟩,trivial⟩,trivial,trivial⟩,trivial⟩
theorem qFf{k n f:Nat}{vs:List V}{h:AH}{r:V×AH}(q:Fk Fs k f vs h=.ok r)(hn:k*3<=n):Fk Tb.fns n f vs h=.ok r:=Q7 (D:=2) (b:=b19) o19 ins (by decide) q hn
noncomputable def Cs:List (List Nat):=[[],[],[],[],[],[],[],[],[],[],[],[],[],[],[],[],[],[],[],[],[],[],[],[],[],[],[],[],[],[],[],[],[],[],[1],[],[],[],[2,9]]
theorem gl0:(glT gs)[0]?=some (.tup [N 1,N 2,N 4,N 8,N 16,N 32]):=rfl
section
variable{k:Nat}
theorem f0(hk:1<=k)(i:Nat)(M:Mem):Pk (glT gs) Fs Cs k 0 [N i] M=.ok (bT true,M):=by
 rw[qJ t0 ⟨rfl,by decide⟩ hk];simp[b0,zY,qA]
theorem f1(hk:2<=k)(i e:Nat)(M:Mem):Pk (glT gs) Fs Cs k 1 [N i,N e] M=.ok (bT (decide (i<e)),M):=by
 rw[qJ t1 ⟨rfl,by decide⟩ (by omega)];simp(disch:=omega) [b1,f0,qA]
theorem f4(hk:1<=k){s:Nat}(hs:s<=5)(M:Mem):Pk (glT gs) Fs Cs k 4 [N s] M=.ok ((N (2 ^ s),true),M):=by
 rw[qJ t4 ⟨rfl,by decide⟩ hk];have:s=0\/s=1\/s=2\/s=3\/s=4\/s=5:=by omega
 rcases this with rfl|rfl|rfl|rfl|rfl|rfl<;>simp[b4,gl0,qA]
theorem f5(hk:2<=k){s:Nat}(h1:1<=s)(hs:s<=5)(M:Mem):Pk (glT gs) Fs Cs k 5 [N s] M=.ok (bT true,M):=by
 rw[qJ t5 ⟨rfl,by decide⟩ (by omega)];simp(disch:=omega) [b5,f0,h1,hs,qA]
theorem f6(hk:3<=k){s:Nat}(h1:1<=s)(hs:s<=5)(M:Mem):Pk (glT gs) Fs Cs k 6 [N s] M=.ok ((.v .non,true),M):=by
 rw[qJ t6 ⟨rfl,by decide⟩ (by omega)];simp(disch:=omega) [b6,f5,Ze,h1,hs]
theorem a8{d:QC}{i:Nat}{f:TS->Mem->RSt}{x:T}{r:List T}{σ σ2:TS}{M:Mem}(hd:qY d M=true)(h:f (σ.set i (some x)) M=.ok (.nx σ2,M)):zf d (.name i) f (x::r) σ M=zf d (.name i) f r σ2 M:=by
 rw[zf,show zR (.name i) x σ=some (σ.set i (some x)) from rfl];dsimp only;rw[h,PR.bind_ok];dsimp only;rw[if_pos hd]
theorem f2L(hk:2<=k){M:Mem}{t:T}{d:QC}(hd:qY d M=true):∀(L:List Nat) (lo n:Nat) (o:Option T),Ris lo n L->∃σ',zf d (.name 3) (pxs (glT gs) (Pk (glT gs) Fs Cs k) [] qDb) (L.map N) [some t,some (N n),some (N lo),o] M=.ok (.nx σ',M)
 | [],lo,n,o,_=>⟨_,rfl⟩
 |x::L,lo,n,o,⟨h1,h2,h3⟩=>by
  obtain⟨σ',e⟩:=f2L hk (M:=M) (t:=t) hd L (x+1) n (some (N x)) h3;refine⟨σ',?_⟩;have a2:¬ (x<lo):=by omega
  rw[<-e,List.map_cons,a8 hd (σ2:=[some t,some (N n),some (N (x+1)),some (N x)]) (by rw[qDb];simp(disch:=omega) [f1,h2,a2])]
theorem f2(hk:3<=k){M:Mem}{t:T}{L:List Nat}{n:Nat}(hi:IsL M t L)(h:Ris 0 n L):Pk (glT gs) Fs Cs k 2 [t,N n] M=.ok (bT true,M):=by
 rw[qJ t2 ⟨rfl,by decide⟩ (by omega)];obtain⟨d,s1,_,s2⟩:=hi.src;obtain⟨σ',e⟩:=f2L (k:=k-1) (by omega) (M:=M) (t:=t) s2 L 0 n none h;rw[show Cs.getD 2 []=[] from rfl];simp[b2,zY,hi.ty,s1,e,qA]
theorem f8(hk:4<=k){L:List Nat}{s:Nat}(hs:s<=5)(h:Ris 0 (2 ^ s) L)(M:Mem):Pk (glT gs) Fs Cs k 8 [N s,NL L] M=.ok ((.v .non,true),M):=by
 rw[qJ t8 ⟨rfl,by decide⟩ (by omega)];have e:=f2 (k:=k-1) (by omega) (IsL.nl M L) h;simp(disch:=omega) [b8,f4,hs,e,Ze]
noncomputable def hE(half:Nat)(L:List Nat):List Nat:=(List.range half).filter λt=>decide (t∈L)||decide (t+half∈L)
noncomputable def hB(half:Nat)(L:List Nat):List Nat:=(List.range half).filter λt=>decide (t∈L)&&decide (t+half∈L)
theorem p5{s:Nat}(h:s<=5):2 ^ s<=32:=Nat.le_trans (vA (by decide) h) (by decide)
theorem f9(hk:1<=k){L:List Nat}{half:Nat}(hh:half<=1000)(M:Mem):Pk (glT gs) Fs Cs k 9 [N half,NL L] M=.ok ((.tup [NL (hE half L),NL (hB half L)],false),M):=by
 rw[qJ t9 ⟨rfl,by decide⟩ hk];have e1:∀{P:Nat->List T->Mem->PR (TB×Mem)}{σ:TS},pei (glT gs) P (.rng1 (.var 0)) (some (N half)::σ) M=.ok (((List.range half).map N,[]),M):=λ{P σ}=>by simp(disch:=omega) [zP]
 have hl:(List.range half).length<=lim:=by simp[lim];omega
 have c1:∀{P:Nat->List T->Mem->PR (TB×Mem)}{o2 o3:Option T},pe (glT gs) P (.comp (.rng1 (.var 0)) [none,some 0,some 1] (.name 0) (.cons (.or (.cmp .inn (.var 0) (.var 2)) (.cmp .inn (.bin .add (.var 0) (.var 1)) (.var 2))) .nil) (.var 0)) [some (N half),some (NL L),o2,o3] M=.ok ((NL (hE half L),true),M):=by
  intro P o2 o3;rw[pe_comp,e1,PR.bind_ok];dsimp only[zu];refine(jR (λt=>decide (t∈L)||decide (t+half∈L)) id hl (λx _=>?_) (λx _ _=>by simp)).trans (by rw[List.map_id];rfl);by_cases h:x∈L<;>simp[W7,h]
 have c2:∀{P:Nat->List T->Mem->PR (TB×Mem)}{o2 o3:Option T},pe (glT gs) P (.comp (.rng1 (.var 0)) [none,some 0,some 1] (.name 0) (.cons (.and (.cmp .inn (.var 0) (.var 2)) (.cmp .inn (.bin .add (.var 0) (.var 1)) (.var 2))) .nil) (.var 0)) [some (N half),some (NL L),o2,o3] M=.ok ((NL (hB half L),true),M):=by
  intro P o2 o3;rw[pe_comp,e1,PR.bind_ok];dsimp only[zu];refine(jR (λt=>decide (t∈L)&&decide (t+half∈L)) id hl (λx _=>?_) (λx _ _=>by simp)).trans (by rw[List.map_id];rfl);by_cases h:x∈L<;>simp[W7,h]
 rw[show Cs.getD 9 []=[] from rfl,b9];simp[-pe_comp,c1,c2,JA,qA,lim]
end
noncomputable def stT(a b:Nat)(c:Bool):List T:=[N a,N b,.v (.bl c)]
def Good(M:Mem)(n:Nat):Prop:=∃a b c,M[n]?=some (stT a b c)/\b<2147483647
theorem qDN{k:Nat}(hk:1<=k){M:Mem}{n m a b:Nat}(hm:0<m/\m<=1000000)(e:M[n]?=some [N a,N b,.v (.bl true)])(e':∀y,(M.set n y)[n]?=some y):
  Pk (glT gs) Fs Cs k 31 [.cell n,N m] M=.ok ((N (a % m),true),M.set n [N (a / m),N b,.v (.bl (decide (0<a / m)))]):=by
 rw[qJ t31 ⟨rfl,by decide⟩ hk,b31,show Cs.getD 31 []=[] from rfl];simp(disch:=omega) [jW,Qw,e,e'];rw[qA (by simp)]
theorem pw6{M:Mem}:qk M .pow (N 10) (N 6)=some (N 1000000,true):=by rw[l8 (by decide)]
theorem ml1{M:Mem}(x:Nat):qk M .mul (N x) (N 48271)=some (N (x*48271),true):=ZU (.inr (by decide))
theorem ml2{M:Mem}(x:Nat):qk M .mul (N x) (N 2147483587)=some (N (x*2147483587),true):=ZU (.inr (by decide))
theorem qDt{k:Nat}(hk:1<=k){M:Mem}{n m a b:Nat}(hm:0<m/\m<=1000000)(e:M[n]?=some [N a,N b,.v (.bl false)])(e':∀y,(M.set n y)[n]?=some y)(hb:b<2147483647){b':Nat}(hb':(b*48271+11) % 2147483647=b')(hq:b'<2147483647):
  Pk (glT gs) Fs Cs k 31 [.cell n,N m] M=.ok ((N ((0*2147483587+b' * b' % 2147483587) / 64 % m),true),M.set n [N a,N b',.v (.bl false)]):=by
 rw[qJ t31 ⟨rfl,by decide⟩ hk,b31,show Cs.getD 31 []=[] from rfl];have hm3:¬ (1000000<m):=Nat.not_lt.mpr hm.2;have hm2:∀{M:Mem},qo M .gt (N m) (N 1000000)=some false:=λ{M}=>(qDf m 1000000).trans (by rw[vW hm3]);have ml3:∀{M:Mem},qk M .mul (N b') (N b')=some (N (b' * b'),true):=λ{M}=>ZU (.inl (wk hq (by decide)));have md1:∀{M:Mem}(x:Nat),qk M .mod (N x) (N 2147483647)=some (N (x % 2147483647),true):=λ{M} x=>jW (by decide);have md2:∀{M:Mem}(x:Nat),qk M .mod (N x) (N 2147483587)=some (N (x % 2147483587),true):=λ{M} x=>jW (by decide);have md3:∀{M:Mem}(x:Nat),qk M .mod (N x) (N m)=some (N (x % m),true):=λ{M} x=>jW hm.1;have fd:∀{M:Mem}(x:Nat),qk M .fdiv (N x) (N 64)=some (N (x / 64),true):=λ{M} x=>Qw (by decide);have rg:qCo (N 1)=some [N 0]:=zP (by decide);simp[hb',ml1,ml2,ml3,md1,md2,md3,fd,pw6,rg,hm2,qCK,e,e'];rw[qA (by simp)]
theorem take{k:Nat}(hk:1<=k){M:Mem}{n m:Nat}(g:Good M n)(hm:0<m/\m<=1000000):∃d M',Pk (glT gs) Fs Cs k 31 [.cell n,N m] M=.ok ((N d,true),M')/\d<m/\Good M' n/\M'.length=M.length/\∀j,j≠n->M'[j]?=M[j]?:=by
 obtain⟨a,b,c,e,hb⟩:=g;have hn:n<M.length:=(List.getElem?_eq_some_iff.mp e).1;have e':∀y,(M.set n y)[n]?=some y:=λy=>List.getElem?_set_self hn;cases c with
 |true=>exact⟨_,_,qDN hk hm e e',Nat.mod_lt _ hm.1,⟨a / m,b,decide (0<a / m),e' _,hb⟩,by simp,λj hj=>by rw[wH (Ne.symm hj)]⟩
 |false=>
  have hq:(b*48271+11) % 2147483647<2147483647:=Nat.mod_lt _ (by decide);exact⟨_,_,qDt hk hm e e' hb rfl hq,Nat.mod_lt _ hm.1,⟨a,_,false,e' _,hq⟩,by simp,λj hj=>by rw[wH (Ne.symm hj)]⟩
theorem qDM{k:Nat}(hk:1<=k)(ns:List Int){kk:Nat}(hkk:kk<=63)(M:Mem):∃a b c,Pk (glT gs) Fs Cs k 30 [.fz (ns.map λn=>.v (.int n)),N kk] M=.ok ((.lst (stT a b c),true),M)/\b<2147483647:=by
 generalize hS:ns.map (λn=>T.v (V.int n))=S;obtain⟨cl,hcl⟩:∃cl:Int,((S.drop kk).take 1++[N 0])[0]?=some (.v (.int cl)):=by
  rw[<-hS];cases h:ns.drop kk with
  |nil=>exact⟨0,by rw[<-List.map_drop,h];rfl⟩
  |cons x r=>exact⟨x,by rw[<-List.map_drop,h];rfl⟩
 obtain⟨num,hnum⟩:∃num:Nat,(if -1-cl>cl then -1-cl else cl)=(num:Int):=⟨(if -1-cl>cl then -1-cl else cl).toNat,by split<;>omega⟩
 have hl:((S.drop kk).take 1).length+[N 0].length<=lim:=by
  have:((S.drop kk).take 1).length<=1:=List.length_take_le _ _;simp[lim];omega
 have c1:∀{M:Mem},qk M .add (.lst (QB S (some (kk:Int)) (some ((kk:Int)+1)))) (.lst [N 0])=some (.lst ((S.drop kk).take 1++[N 0]),T.lfs ((S.drop kk).take 1++[N 0])):=λ{M}=>by
  rw[show ((kk:Int)+1)=((kk+1:Nat):Int) by omega,qAc,T9 hl];rfl
 generalize (S.drop kk).take 1++[N 0]=W at hcl c1;have mx:∀{M:Mem},zi M .max [.v (.int cl),.v (.int (-1-cl))]=some (N num,true):=λ{M}=>by rw[j4];unfold iT;rw[hnum];rfl
 have md:∀{M:Mem}(x:Nat),qk M .mod (N x) (N 2147483629)=some (N (x % 2147483629),true):=λ{M} x=>jW (by decide);have m1:∀{M:Mem}(x:Nat),qk M .mul (N 7919) (N x)=some (N (7919*x),true):=λ{M} x=>ZU (.inl (by decide));have m2:∀{M:Mem}(x:Nat),qk M .mul (N 104729) (N x)=some (N (104729*x),true):=λ{M} x=>ZU (.inl (by decide));have m3:∀{M:Mem}(x:Nat),qk M .mul (N x) (N kk)=some (N (x*kk),true):=λ{M} x=>ZU (.inr (Nat.lt_of_le_of_lt hkk (by decide)));have pw:∀{M:Mem},qk M .pow (N 10) (N 18)=some (N 1000000000000000000,true):=λ{M}=>by rw[l8 (by decide)]
 refine⟨num,(num % 2147483629+7919*kk+104729*kk*kk+11) % 2147483629,decide (1000000000000000000<=num),?_,wk (Nat.mod_lt _ (by decide)) (by decide)⟩;rw[qJ t30 ⟨rfl,by decide⟩ hk,b30,show Cs.getD 30 []=[] from rfl];simp[c1,hcl,mx,md,m1,m2,m3,pw,stT,lim];rw[qA rfl]
noncomputable abbrev rf(m:Nat)(q:Nat->Bool):List Nat:=(List.range m).filter q
structure Kept(n:Nat)(M M':Mem):Prop where
 good:Good M' n
 len:M'.length=M.length
 oth:∀j,j≠n->M'[j]?=M[j]?
theorem Kept.trans{n:Nat}{A B C:Mem}(x:Kept n A B)(y:Kept n B C):Kept n A C:=⟨y.good,y.len.trans x.len,λj hj=>(y.oth j hj).trans (x.oth j hj)⟩
theorem O9{k:Nat}(hk:1<=k){M:Mem}{n m:Nat}(g:Good M n)(hm:0<m/\m<=1000000):∃d M',Pk (glT gs) Fs Cs k 31 [.cell n,N m] M=.ok ((N d,true),M')/\d<m/\Kept n M M':=by
 obtain⟨d,M',e,h1,h2,h3,h4⟩:=take hk g hm;exact⟨d,M',e,h1,h2,h3,h4⟩
theorem V3(n:Nat):List.range (n+n)=List.range n++(List.range n).map (n + ·):=by
 rw[List.range_add]
theorem O8(m:Nat)(q:Nat->Bool):Ris 0 m (rf m q):=GF.ris_range m q
theorem J2{n:Nat}{p q:Nat->Bool}(h:∀t,t<n->p t=q t):rf n p=rf n q:=vF λt ht=>h t (wF.mp ht)
theorem JX{n:Nat}{q:Nat->Bool}{t:Nat}:t∈rf n q↔t<n/\q t=true:=by
 unfold rf;rw[List.mem_filter,wF]
theorem qDy(n:Nat)(S:Nat->Bool):hE n (rf (n+n) S)=rf n λt=>S t||S (t+n):=by
 unfold hE;refine J2 λt ht=>?_;have h1:decide (t∈rf (n+n) S)=S t:=by
  rw[wN,vY,JX];exact⟨λz=>z.2,λz=>⟨by omega,z⟩⟩
 have h2:decide (t+n∈rf (n+n) S)=S (t+n):=by
  rw[wN,vY,JX];exact⟨λz=>z.2,λz=>⟨by omega,z⟩⟩
 rw[h1,h2]
theorem qC9(n:Nat)(S:Nat->Bool):hB n (rf (n+n) S)=rf n λt=>S t&&S (t+n):=by
 unfold hB;refine J2 λt ht=>?_;have h1:decide (t∈rf (n+n) S)=S t:=by
  rw[wN,vY,JX];exact⟨λz=>z.2,λz=>⟨by omega,z⟩⟩
 have h2:decide (t+n∈rf (n+n) S)=S (t+n):=by
  rw[wN,vY,JX];exact⟨λz=>z.2,λz=>⟨by omega,z⟩⟩
 rw[h1,h2]
theorem p2(s:Nat):2 ^ (s+1)=2 ^ s+2 ^ s:=by rw[wU];omega
theorem slm{M:Mem}{t:T}{L:List Nat}(h:IsL M t L)(xs:List T)(lo hi:Option Int):Z7 t xs lo hi=some (lT (QB xs lo hi)):=by
 cases t with
 |tup ts=>exact absurd h.ty (by show some "tuple"≠some "list";decide)
 |_=>rfl
section
variable{k:Nat}
theorem f10(hk:3<=k)(i:Nat)(M:Mem):Pk (glT gs) Fs Cs k 10 [N i] M=.ok (bT (decide (i<2)),M):=by
 rw[qJ t10 ⟨rfl,by decide⟩ (by omega)];simp(disch:=omega) [b10,f1,qA]
theorem f11(hk:4<=k){M:Mem}{t:T}{L:List Nat}(h:IsL M t L)(hl:L.length<=1000)(m:Nat):Pk (glT gs) Fs Cs k 11 [t,N m] M=.ok (bT (decide (L.length=m)&&L.all λx=>decide (x<2)),M):=by
 rw[qJ t11 ⟨rfl,by decide⟩ (by omega),b11];obtain⟨d,s1,_,s2⟩:=h.src;have c:=Qt (d:=d) (c:=pec (glT gs) (Pk (glT gs) Fs Cs (k-1)) .nil) (e:=pe (glT gs) (Pk (glT gs) Fs Cs (k-1)) (.call 10 (.cons (.var 0) .nil))) (M:=M) (σ:=[]) (λ_=>true) (λx=>.v (.bl (decide (x<2)))) (λ_=>true) L [] true none s2 (by simp[lim];omega) (λx _=>by simp) (λx _ _=>by simp(disch:=omega) [f10,bT]);rw[qd,List.nil_append]at c;by_cases hm:L.length=m
 ·simp[h.ty,zY,h.len,hm,s1,c,qAs,qA]
 ·simp[h.ty,zY,h.len,hm,qA]
noncomputable def xr(x y:Nat):Nat:=(x+y) % 2
theorem f12(hk:1<=k)(x y:Nat)(M:Mem):Pk (glT gs) Fs Cs k 12 [NL [x,y]] M=.ok ((N (xr x y),true),M):=by
 rw[qJ t12 ⟨rfl,by decide⟩ hk];have:=(IsL.nl M [x,y]).sum;simp(disch:=omega) [b12,this,jW,qA,xr,JA]
theorem f13(hk:2<=k){A B:List Nat}(hl:A.length<=1000)(M:Mem):Pk (glT gs) Fs Cs k 13 [NL A,NL B] M=.ok ((NL (List.zipWith xr A B),true),M):=by
 rw[qJ t13 ⟨rfl,by decide⟩ (by omega),b13];have c:=G5 (gl:=glT gs) (P:=Pk (glT gs) Fs Cs (k-1)) (d:=[]) (e:=pe (glT gs) (Pk (glT gs) Fs Cs (k-1)) (.call 12 (.cons (.lst (.cons (.var 0) (.cons (.var 1) .nil))) .nil))) (M:=M) xr rfl A B [] true none none (by simp[lim];omega) (λx y _ _=>by
  have:=f12 (k:=k-1) (by omega) x y M;simp[NL]at this;simp[lim,this])
 simp at c;simp[JA,W8,NL];simp[NL]at c;rw[c,PR.bind_ok,PR.bind_ok];simp[qA]
noncomputable def wrd:Nat->List Nat->List Nat
 | 0,L=>L
 |s+1,L=>List.zipWith xr (wrd s (L.take (2 ^ s))) (wrd s (L.drop (2 ^ s)))++wrd s (L.drop (2 ^ s))
theorem zL:∀(s:Nat) (L:List Nat),L.length=2 ^ s->(wrd s L).length=2 ^ s
 | 0,L,h=>h
 |s+1,L,h=>by
  have h':L.length=2 ^ s+2 ^ s:=by rw[h,wU];omega
  have l1:=zL s (L.take (2 ^ s)) (by rw[wO];omega);have l2:=zL s (L.drop (2 ^ s)) (by rw[wY];omega);show (List.zipWith xr _ _++wrd s _).length=_;rw[List.length_append,vC,l1,l2,wU];omega
theorem f16:∀(s:Nat){k:Nat}(hk:s+3<=k) (hs:s<=5){M:Mem}{t:T}{L:List Nat}(h:IsL M t L) (hl:L.length=2 ^ s),Pk (glT gs) Fs Cs k 16 [t] M=.ok ((NL (wrd s L),true),M)
 | 0,k,hk,hs,M,t,L,h,hl=>by
  rw[qJ t16 ⟨rfl,by decide⟩ (by omega),b16];simp[h.len,hl,h.list,qA,wrd]
 |s+1,k,hk,hs,M,t,L,h,hl=>by
  have h5:=p5 (show s<=5 by omega);have hp:0<2 ^ s:=vT (by decide);have hl':L.length=2 ^ s+2 ^ s:=by rw[hl,wU];omega
  have i1:=f16 s (k:=k-1) (by omega) (by omega) (IsL.nl M (L.take (2 ^ s))) (by rw[wO];omega);have i2:=f16 s (k:=k-1) (by omega) (by omega) (IsL.nl M (L.drop (2 ^ s))) (by rw[wY];omega);have l1:=zL s (L.take (2 ^ s)) (by rw[wO];omega);have l2:=zL s (L.drop (2 ^ s)) (by rw[wY];omega);have n1:¬ (2 ^ s+2 ^ s=1):=by omega
  have d1:(2 ^ s+2 ^ s) / 2=2 ^ s:=by omega
  have x1:QB (L.map N) none (some ((2 ^ s:Nat):Int))=(L.take (2 ^ s)).map N:=by rw[Qq (by simp;omega),List.map_take]
  have x2:QB (L.map N) (some ((2 ^ s:Nat):Int)) none=(L.drop (2 ^ s)).map N:=by rw[O5 (by simp;omega),List.map_drop]
  have hL:∀K:List Nat,lT (K.map N)=(NL K,true):=λK=>by unfold lT;rw[QF];rfl
  rw[qJ t16 ⟨rfl,by decide⟩ (by omega),b16,show Cs.getD 16 []=[] from rfl];have x1':QB (L.map N) none (some ((2:Int) ^ s))=(L.take (2 ^ s)).map N:=by rw[<-x1];simp
  have x2':QB (L.map N) (some ((2:Int) ^ s)) none=(L.drop (2 ^ s)).map N:=by rw[<-x2];simp
  have y1:lT (QB (L.map N) none (some ((2:Int) ^ s)))=(NL (L.take (2 ^ s)),true):=by rw[x1',hL]
  have y2:lT (QB (L.map N) (some ((2:Int) ^ s)) none)=(NL (L.drop (2 ^ s)),true):=by rw[x2',hL]
  simp(disch:=omega) [h.len,hl',n1,Qw,d1,h.its,slm h,y1,y2,i1,i2,JA,f13,l1];rw[R9 (by simp[l1,l2,lim];omega)];simp[qA,wrd]
theorem f15(hk:5<=k){M:Mem}{t:T}{L:List Nat}(h:IsL M t L){s:Nat}(h1:1<=s)(hs:s<=5)(hl:L.length=2 ^ s)(hb:∀x∈L,x<2):Pk (glT gs) Fs Cs k 15 [t] M=.ok (bT true,M):=by
 have h5:=p5 hs;have ha:(L.all λx=>decide (x<2))=true:=by rw[wL];exact λx hx=>vX (hb x hx)
 rw[qJ t15 ⟨rfl,by decide⟩ (by omega),b15];have c:=Qi (c:=pec (glT gs) (Pk (glT gs) Fs Cs (k-1)) .nil) (e:=pe (glT gs) (Pk (glT gs) Fs Cs (k-1)) (.call 11 (.cons (.var 1) (.cons (.call 4 (.cons (.var 0) .nil)) .nil)))) (M:=M) (σ:=[some t]) (λ_=>true) (λx=>.v (.bl (decide (L.length=2 ^ x)))) (λ_=>true) (List.range' 1 5) [] true none (by simp[lim]) (λx _=>by simp) (λx hx _=>by
  have hx:x<=5:=by simp[List.mem_range']at hx;omega
  have:=f11 (k:=k-1) (by omega) h (by omega) (2 ^ x);simp(disch:=omega) [f4,hx,this,ha,bT])
 rw[qd,List.nil_append]at c;simp(disch:=omega) [V1,c,qA9,qA];have:s=1\/s=2\/s=3\/s=4\/s=5:=by omega
 rw[hl];rcases this with rfl|rfl|rfl|rfl|rfl<;>simp[List.range']
theorem f14(hk:10<=k){M:Mem}{t:T}{L:List Nat}(h:IsL M t L){s:Nat}(h1:1<=s)(hs:s<=5)(hl:L.length=2 ^ s)(hb:∀x∈L,x<2):Pk (glT gs) Fs Cs k 14 [t] M=.ok ((NL (wrd s L),true),M):=by
 rw[qJ t14 ⟨rfl,by decide⟩ (by omega),b14];have e8:=f15 (k:=k-1) (by omega) h h1 hs hl hb;have e9:=f16 s (k:=k-1) (by omega) hs h hl;simp[e8,e9,qA]
noncomputable def Ts(s:Str):T:=.v (.str s)
theorem QP:∀(L:List Nat),(L.map λ_=>1).sum=L.length
 | []=>rfl
 |x::L=>by rw[List.map_cons,List.sum_cons,QP L,List.length_cons];omega
theorem zg{n x:Nat}{S:Nat->Bool}(h:x<n):decide (x∈rf n S)=S x:=by
 rw[wN,vY,JX];exact⟨λz=>z.2,λz=>⟨h,z⟩⟩
theorem qB5(hk:1<=k)(L:List Nat)(M:Mem):Pk (glT gs) Fs Cs k 12 [NL L] M=.ok ((N (L.sum % 2),true),M):=by
 rw[qJ t12 ⟨rfl,by decide⟩ hk,b12,show Cs.getD 12 []=[] from rfl];have sm:=(IsL.nl M L).sum;simp(disch:=omega) [sm,jW,qA]
theorem qDi(hk:1<=k)(p t:Nat)(M:Mem):Pk (glT gs) Fs Cs k 17 [N p,N t] M=.ok (bT (rch p t),M):=by
 rw[qJ t17 ⟨rfl,by decide⟩ hk,b17,show Cs.getD 17 []=[] from rfl];simp[Jw,qA,rch]
theorem qBL(hk:1<=k){sp:List Nat}(hl:sp.length<=1000)(p:Nat)(M:Mem){o:Option T}{d:QC}(hd:qY d M=true):qb d (.name 0) (pec (glT gs) (Pk (glT gs) Fs Cs k) (.cons (.call 17 (.cons (.var 1) (.cons (.var 0) .nil))) .nil)) (pe (glT gs) (Pk (glT gs) Fs Cs k) (nE 1)) (sp.map N) [] true [o,some (N p)] M=.ok ((NL ((sp.filter (rch p)).map λ_=>1),true),M):=
 zA (rch p) (λ_=>1) hd (by simp[lim];omega) (λx _=>by simp[qDi hk]) (λx _ _=>by simp)
theorem qBt(hk:2<=k){M:Mem}{t u:T}{sp pl:List Nat}(i1:IsL M t sp)(i2:IsL M u pl)(h1:sp.length<=1000)(h2:pl.length<=1000)(p:Nat):Pk (glT gs) Fs Cs k 28 [N p,t,u] M=.ok ((N (qg sp (rch p) ^^ qg pl λq=>decide (q=p)).toNat,true),M):=by
 rw[qJ t28 ⟨rfl,by decide⟩ (by omega),b28,show Cs.getD 28 []=[] from rfl];obtain⟨d1,s1,_,g1⟩:=i1.src;obtain⟨d2,s2,_,g2⟩:=i2.src;have c1:=qBL (k:=k-1) (by omega) h1 p M (o:=none) g1;have c2:=zA (M:=M) (o:=none) (σ:=[some (N p)]) (its:=pl) (c:=pec (glT gs) (Pk (glT gs) Fs Cs (k-1)) (.cons (.cmp .eq (.var 0) (.var 1)) .nil)) (e:=pe (glT gs) (Pk (glT gs) Fs Cs (k-1)) (nE 1)) (λq=>decide (q=p)) (λ_=>1) g2 (by simp[lim];omega) (λx _=>by simp) (λx _ _=>by simp);have l1:(sp.filter (rch p)).length<=sp.length:=wo _ _;have l2:(pl.filter λq=>decide (q=p)).length<=pl.length:=wo _ _;have ad:∀{M:Mem},qk M .add (NL ((sp.filter (rch p)).map λ_=>1)) (NL ((pl.filter λq=>decide (q=p)).map λ_=>1))=some (NL (((sp.filter (rch p)).map λ_=>1)++((pl.filter λq=>decide (q=p)).map λ_=>1)),true):=λ{M}=>R9 (by simp[lim];omega);have e:=qB5 (k:=k-1) (by omega) (((sp.filter (rch p)).map λ_=>1)++((pl.filter λq=>decide (q=p)).map λ_=>1)) M;rw[List.sum_append,QP,QP,GF.two_len]at e;generalize (sp.filter (rch p)).map (λ_=>1)=A at *;generalize (pl.filter λq=>decide (q=p)).map (λ_=>1)=B at *;simp[s1,s2,c1,c2,-ql,ad,e,qA]
theorem qAC(hk:3<=k){n P:Nat}(hn:n<=32){M:Mem}{t u:T}{sp pl:List Nat}(i1:IsL M t sp)(i2:IsL M u pl)(h1:sp.length<=1000)(h2:pl.length<=1000):Pk (glT gs) Fs Cs k 27 [N n,N P,t,u] M=.ok (bT ((List.range n).all λp=>(qg sp (rch p) ^^ qg pl λq=>decide (q=p))==decide (p=P)),M):=by
 rw[qJ t27 ⟨rfl,by decide⟩ (by omega),b27,show Cs.getD 27 []=[] from rfl];have c:=Qi (M:=M) (σ:=[some (N P),some u,some t]) (c:=pec (glT gs) (Pk (glT gs) Fs Cs (k-1)) .nil) (e:=pe (glT gs) (Pk (glT gs) Fs Cs (k-1)) (.cmp .eq (.call 28 (.cons (.var 0) (.cons (.var 3) (.cons (.var 2) .nil)))) (.ite (.cmp .eq (.var 0) (.var 1)) (nE 1) (nE 0)))) (λ_=>true) (λp=>.v (.bl ((qg sp (rch p) ^^ qg pl λq=>decide (q=p))==decide (p=P)))) (λ_=>true) (List.range n) [] true none (by simp[lim];omega) (λx _=>by simp) (λx _ _=>by
  have e:=qBt (k:=k-1) (by omega) i1 i2 h1 h2 x;generalize (qg sp (rch x) ^^ qg pl λq=>decide (q=x))=b at *;by_cases q:x=P
  ·subst q;cases b<;>simp[e,bT]
  ·cases b<;>simp[e,q,bT])
 rw[qd,List.nil_append,show ((List.range n).all λ_=>true)=true from wL.mpr λ_ _=>rfl]at c;have rg:=zP (n:=n) (by omega);have al:=λM=>qAs (M:=M) (λp=>(qg sp (rch p) ^^ qg pl λq=>decide (q=p))==decide (p=P)) (List.range n);simp[rg,c,-jK,al,qA]
theorem zU{hi:Nat}:∀{L:List Nat}{lo:Nat},Ris lo hi L->L.length<=hi-lo
 | [],_,_=>Nat.zero_le _
 |y::L,lo,⟨a,b,c⟩=>by have:=zU c;rw[List.length_cons];omega
theorem qDV(hk:5<=k){n P:Nat}(hn:n<=32)(hP:P<n){M:Mem}{t u:T}{sp pl lo:List Nat}(i1:IsL M t sp)(i2:IsL M u pl)(r1:Ris 0 n sp)(r2:Ris 0 P pl):Pk (glT gs) Fs Cs k 26 [N n,NL lo,N P,t,u] M=.ok (bT (!(sp.any λt=>decide (t∈lo))&&(List.range n).all λp=>(qg sp (rch p) ^^ qg pl λq=>decide (q=p))==decide (p=P)),M):=by
 have l1:=zU r1;have l2:=zU r2;rw[qJ t26 ⟨rfl,by decide⟩ (by omega),b26,show Cs.getD 26 []=[] from rfl];obtain⟨d1,s1,_,g1⟩:=i1.src;have q1:=f2 (k:=k-1) (by omega) i1 r1;have q2:=f2 (k:=k-1) (by omega) i2 r2;have c:=Qt (M:=M) (σ:=[some (NL lo)]) (c:=pec (glT gs) (Pk (glT gs) Fs Cs (k-1)) .nil) (e:=pe (glT gs) (Pk (glT gs) Fs Cs (k-1)) (.cmp .inn (.var 0) (.var 1))) (λ_=>true) (λt=>.v (.bl (decide (t∈lo)))) (λ_=>true) sp [] true none g1 (by simp[lim];omega) (λx _=>by simp) (λx _ _=>by simp[W7,bT]);rw[qd,List.nil_append,show (sp.all λ_=>true)=true from wL.mpr λ_ _=>rfl]at c;have an:=λM=>qA9 (M:=M) (λt=>decide (t∈lo)) sp;have e:=qAC (k:=k-1) (by omega) hn (P:=P) i1 i2 (by omega) (by omega);generalize (sp.any λt=>decide (t∈lo))=b at *;generalize ((List.range n).all λp=>(qg sp (rch p) ^^ qg pl λq=>decide (q=p))==decide (p=P))=b2 at *;cases b<;>simp[q1,q2,s1,c,-jK,an,e,qA,bT]
noncomputable def cB(L:List Nat)(q:Nat):Bool:=decide (L.getD q 0=1)
theorem qAk{L:List Nat}{m q:Nat}(h:q<m):cB (L.take m) q=cB L q:=by
 unfold cB;rw[List.getD_eq_getElem?_getD,List.getD_eq_getElem?_getD,wM h]
theorem u8{L:List Nat}{m q:Nat}:cB (L.drop m) q=cB L (m+q):=by
 unfold cB;rw[List.getD_eq_getElem?_getD,List.getD_eq_getElem?_getD,wu]
theorem qFK(a b:Bool):xr a.toNat b.toNat=(a ^^ b).toNat:=by cases a<;>cases b<;>rfl
theorem Qs:∀{s:Nat},s<=5->∀{L:List Nat},L.length=2 ^ s->(∀x∈L,x<2)->∀{t:Nat},t<2 ^ s->(wrd s L).getD t 0=(wd s (cB L) t).toNat
 | 0,_,L,hl,hb,t,ht=>by
  have:t=0:=by omega
  subst this
  match L,hl with
  | [x],_=>
   have:=hb x (by simp);rcases(by omega:x=0\/x=1) with rfl|rfl<;>rfl
 |s+1,h5,L,hl,hb,t,ht=>by
  have p2:=GF.pw s;have l1:(L.take (2 ^ s)).length=2 ^ s:=by rw[wO];omega
  have l2:(L.drop (2 ^ s)).length=2 ^ s:=by rw[wY];omega
  have w1:=zL s _ l1;have w2:=zL s _ l2;have i1:=λ{t} (h:t<2 ^ s)=>Qs (s:=s) (by omega) l1 (λx hx=>hb x (List.mem_of_mem_take hx)) (t:=t) h;have i2:=λ{t} (h:t<2 ^ s)=>Qs (s:=s) (by omega) l2 (λx hx=>hb x (vL hx)) (t:=t) h;have c1:=λ{t} (h:t<2 ^ s)=>GF.wd_congr s (cB (L.take (2 ^ s))) (cB L) t (λq hq=>qAk hq) h;have c2:=λ{t} (h:t<2 ^ s)=>GF.wd_congr s (cB (L.drop (2 ^ s))) (λq=>cB L (2 ^ s+q)) t (λq _=>u8) h;show (List.zipWith xr _ _++wrd s _).getD t 0=_;rw[GF.wd];have lz:(List.zipWith xr (wrd s (L.take (2 ^ s))) (wrd s (L.drop (2 ^ s)))).length=2 ^ s:=by rw[vC,w1,w2];omega
  by_cases h:t<2 ^ s
  ·rw[if_pos h,<-c1 h,<-c2 h,<-qFK,<-i1 h,<-i2 h];rw[List.getD_eq_getElem?_getD,List.getElem?_append_left (by omega),List.getElem?_zipWith,getD_some (by omega),getD_some (by omega)];rfl
  ·rw[if_neg h,<-c2 (by omega),<-i2 (by omega),List.getD_eq_getElem?_getD,List.getElem?_append_right (by omega),lz,<-List.getD_eq_getElem?_getD]
theorem P8:∀{s:Nat}{L:List Nat},L.length=2 ^ s->(∀x∈L,x<2)->∀x∈wrd s L,x<2
 | 0,L,_,hb,x,hx=>hb x hx
 |s+1,L,hl,hb,x,hx=>by
  have p2:=GF.pw s;have hx:x∈List.zipWith xr (wrd s (L.take (2 ^ s))) (wrd s (L.drop (2 ^ s)))++wrd s (L.drop (2 ^ s)):=hx;rcases wD.mp hx with h|h
  ·obtain⟨i,hi,e⟩:=wt.mp h;rw[List.getElem_zipWith]at e;rw[<-e];exact Nat.mod_lt _ (by decide)
  ·exact P8 (s:=s) (by rw[wY];omega) (λy hy=>hb y (vL hy)) x h
theorem qCB(hk:11<=k){s P:Nat}(h1:1<=s)(hs:s<=5)(hP:P<2 ^ s){M:Mem}{t:T}{L:List Nat}(h:IsL M t L)(hl:L.length=2 ^ s)(hb:∀x∈L,x<2)(S:Nat->Bool):
  ∃b,Pk (glT gs) Fs Cs k 29 [N (2 ^ s),NL (rf (2 ^ s) S),N P,t] M=.ok (bT b,M)/\(b=true↔Open s S P (cB L)):=by
 have n5:=p5 hs;have q1:=f11 (k:=k-1) (by omega) h (by omega) (2 ^ s);have ha:(L.all λx=>decide (x<2))=true:=by rw[wL];exact λx hx=>vX (hb x hx)
 rw[ha,hl,vX rfl]at q1;have w:=f14 (k:=k-1) (by omega) h h1 hs hl hb;have lw:=zL s L hl;have hL1:∀K:List Nat,lT (K.map N)=(NL K,true):=λK=>by unfold lT;rw[QF];rfl
 have sl:∀{σ:TS},pe (glT gs) (Pk (glT gs) Fs Cs (k-1)) (.sl (.var 3) .nil (.cons (.var 2) .nil)) (some (N (2 ^ s))::some (NL (rf (2 ^ s) S))::some (N P)::some t::σ) M=.ok ((NL (L.take P),true),M):=λ{σ}=>by
  have c:=Qq (xs:=L.map N) (m:=P) (by simp;omega);simp[h.its,slm h,c,<-List.map_take,hL1]
 have ix:=h.idx (i:=P) (x:=L.getD P 0) (getD_some (by omega));have rg:=zP (n:=2 ^ s) (by omega);have c:=Qi (M:=M) (σ:=[some (NL (rf (2 ^ s) S)),some (NL (wrd s L))]) (c:=pec (glT gs) (Pk (glT gs) Fs Cs (k-1)) (.cons (.cmp .notin (.var 0) (.var 1)) .nil)) (e:=pe (glT gs) (Pk (glT gs) Fs Cs (k-1)) (.cmp .eq (.idx (.var 2) (.var 0)) (nE 0))) (λx=>!decide (x∈rf (2 ^ s) S)) (λx=>.v (.bl (decide ((wrd s L).getD x 0=0)))) (λ_=>true) (List.range (2 ^ s)) [] true none (by simp[lim];omega) (λx _=>by simp[JC,-List.mem_filter]) (λx hx _=>by
  have:=(IsL.nl M (wrd s L)).idx (i:=x) (x:=(wrd s L).getD x 0) (getD_some (by have:=wF.mp hx;omega));simp[this,bT])
 rw[List.nil_append,show (((List.range (2 ^ s)).filter λx=>!decide (x∈rf (2 ^ s) S)).all λ_=>true)=true from wL.mpr λ_ _=>rfl]at c;have al:=λM=>qAs (M:=M) (λx=>decide ((wrd s L).getD x 0=0)) ((List.range (2 ^ s)).filter λx=>!decide (x∈rf (2 ^ s) S));have k3:(((List.range (2 ^ s)).filter λx=>!decide (x∈rf (2 ^ s) S)).all λx=>decide ((wrd s L).getD x 0=0))=true↔∀t,t<2 ^ s->S t=false->wd s (cB L) t=false:=by
  rw[wL];constructor
  ·intro z t ht hS;have:=z t (List.mem_filter.mpr ⟨wF.mpr ht,by rw[zg ht,hS];rfl⟩);rw[vY,Qs hs hl hb ht]at this;cases q:wd s (cB L) t with
   |false=>rfl
   |true=>rw[q]at this;cases this
  ·intro z x hx;obtain⟨a,b⟩:=List.mem_filter.mp hx;have a:=wF.mp a;rw[zg a]at b;rw[vY,Qs hs hl hb a,z x a (by simpa using b)];rfl
 have k1:¬ 1∈L.take P↔∀q,q<P->cB L q=false:=by
  constructor
  ·intro z q hq;refine vW λe=>z ?_;rw[List.mem_take_iff_getElem];refine⟨q,by omega,?_⟩;rw[List.getD_eq_getElem?_getD,wA (by omega)]at e;exact e
  ·intro z hm;rw[List.mem_take_iff_getElem]at hm;obtain⟨q,hq,e⟩:=hm;have:=z q (by omega);unfold cB at this;rw[List.getD_eq_getElem?_getD,wA (by omega),vB,e]at this;cases this
 have k2:¬ L.getD P 0=0↔cB L P=true:=by
  have:L.getD P 0<2:=by
   rw[List.getD_eq_getElem?_getD,wA (by omega)];exact hb _ (vH _)
  unfold cB;rw[vY];omega
 rw[qJ t29 ⟨rfl,by decide⟩ (by omega),b29,show Cs.getD 29 []=[] from rfl];by_cases g1:1∈L.take P
 ·refine⟨false,?_,⟨λz=>(by cases z),λz=>absurd g1 (k1.mpr z.c1)⟩⟩;have i1:∀{M:Mem},qo M .inn (N 1) (NL (L.take P))=some true:=λ{M}=>by rw[W7,vX g1]
  clear g1;simp[-qAX,sl,q1,i1,qA,bT]
 ·have i1:∀{M:Mem},qo M .inn (N 1) (NL (L.take P))=some false:=λ{M}=>by rw[W7,vW g1]
  by_cases g2:L.getD P 0=0
  ·refine⟨false,?_,⟨λz=>(by cases z),λz=>absurd g2 (k2.mpr z.c2)⟩⟩;rw[g2]at ix;clear g1 g2;simp[-qAX,sl,q1,i1,ix,qA,bT]
  ·refine⟨_,?_,k3.trans ⟨λz=>⟨k1.mp g1,k2.mp g2,z⟩,λz=>z.c3⟩⟩;have i2:∀{M:Mem},qo M .eq (N (L.getD P 0)) (N 0)=some false:=λ{M}=>by rw[qAr,vW g2]
   clear k3 k1 k2 g1 g2;generalize L.getD P 0=zz at *;generalize ((List.range (2 ^ s)).filter λx=>!decide (x∈rf (2 ^ s) S))=F at *;simp[-qAX,sl,q1,i1,ix,i2,-qAr,w,rg,c,-ql,-List.getD_eq_getElem?_getD,al,qA]
theorem ZQ{M:Mem}(a b:Str):qo M .eq (Ts a) (Ts b)=some (decide (a=b)):=by
 show (some (a==b):Option Bool)=_;congr 1
noncomputable def Qk(sp pl:List Nat):T:=.tup [Ts "told",NL sp,NL pl]
noncomputable def zX(t:T):T:=.tup [Ts "open",t]
theorem jN(hk:3<=k){s P:Nat}(hs:s<=5)(hP:P<2 ^ s)(M:Mem):Pk (glT gs) Fs Cs k 7 [N s,N P] M=.ok ((.v .non,true),M):=by
 rw[qJ t7 ⟨rfl,by decide⟩ (by omega),b7,show Cs.getD 7 []=[] from rfl];simp(disch:=omega) [f4,hs,f1,hP,Ze]
theorem qDD(hk:1<=k)(a b:T)(x:Str)(M:Mem):Pk (glT gs) Fs Cs k 3 [.tup [Ts x,a,b],Ts "told",N 3] M=.ok (bT (decide (x="told")),M):=by
 rw[qJ t3 ⟨rfl,by decide⟩ (by omega),b3,show Cs.getD 3 []=[] from rfl];have ty:∀{M:Mem}(ts:List T),zN M (.tup ts)=some "tuple":=λ{M} ts=>rfl;have ty2:∀{M:Mem}(x:Str),zN M (Ts x)=some "str":=λ{M} ts=>rfl;have lfT:∀x,T.lf (Ts x)=true:=λx=>rfl;simp[ty,ty2,lfT,zY,ZQ,qA]
theorem qCT(hk:1<=k)(a:T)(x y:Str)(m:Nat)(M:Mem):Pk (glT gs) Fs Cs k 3 [.tup [Ts x,a],Ts y,N m] M=.ok (bT (decide (m=2)&&decide (x=y)),M):=by
 rw[qJ t3 ⟨rfl,by decide⟩ (by omega),b3,show Cs.getD 3 []=[] from rfl];have ty:∀{M:Mem}(ts:List T),zN M (.tup ts)=some "tuple":=λ{M} ts=>rfl;have ty2:∀{M:Mem}(x:Str),zN M (Ts x)=some "str":=λ{M} ts=>rfl;have lfT:∀x,T.lf (Ts x)=true:=λx=>rfl;by_cases h:m=2
 ·subst h;simp[ty,ty2,lfT,zY,ZQ,qA]
 ·have h':¬ 2=m:=λz=>h z.symm;simp[ty,zY,h,h',qA,bT]
theorem qBk(hk:8<=k){s P:Nat}(h1:1<=s)(hs:s<=5)(hP:P<2 ^ s){sp pl:List Nat}{M:Mem}{t u:T}(i1:IsL M t sp)(i2:IsL M u pl)(r1:Ris 0 (2 ^ s) sp)(r2:Ris 0 P pl)(S:Nat->Bool):
  ∃b,Pk (glT gs) Fs Cs k 25 [N s,NL (rf (2 ^ s) S),N P,.tup [Ts "told",t,u]] M=.ok (bT b,M)/\(b=true↔Told s S P sp pl):=by
 have n5:=p5 hs;refine⟨!(sp.any λt=>decide (t∈rf (2 ^ s) S))&&(List.range (2 ^ s)).all λp=>(qg sp (rch p) ^^ qg pl λq=>decide (q=p))==decide (p=P),?_,?_⟩
 ·rw[qJ t25 ⟨rfl,by decide⟩ (by omega),b25,show Cs.getD 25 []=[] from rfl];have q1:=f6 (k:=k-1) (by omega) h1 hs M;have q2:=f8 (k:=k-1) (by omega) hs (O8 (2 ^ s) S) M;have q3:=jN (k:=k-1) (by omega) hs hP M;have q4:=f4 (k:=k-1) (by omega) hs M;have q5:=qDD (k:=k-1) (by omega) t u "told" M;have q6:=qDV (k:=k-1) (by omega) n5 hP (lo:=rf (2 ^ s) S) i1 i2 r1 r2;have st:∀{M:Mem}{σ:TS},pe (glT gs) (Pk (glT gs) Fs Cs (k-1)) (.cst (V.str "told")) σ M=.ok ((Ts "told",true),M):=λ{M σ}=>rfl;rw[vX rfl]at q5;generalize (!(sp.any λt=>decide (t∈rf (2 ^ s) S))&&(List.range (2 ^ s)).all λp=>(qg sp (rch p) ^^ qg pl λq=>decide (q=p))==decide (p=P))=bb at *;simp[q1,q2,q3,q4,q5,q6,st,-pe_str,qA]
 ·rw[Bool.and_eq_true,Bool.not_eq_true',List.any_eq_false,wL];constructor
  ·rintro⟨a,b⟩;refine⟨r1,r2,λt ht=>?_,λp hp=>?_⟩
   ·have:=a t ht;rw[vY,<-vY (p:=t∈rf (2 ^ s) S),zg (GF.Ris.mem r1 t ht).2]at this;simpa using this
   ·exact beq_iff_eq.mp (b p (wF.mpr hp))
  ·intro t;refine⟨λx hx=>?_,λp hp=>beq_iff_eq.mpr (t.sum p (wF.mp hp))⟩;rw[zg (GF.Ris.mem r1 x hx).2,t.off x hx];decide
theorem qBF(hk:12<=k){s P:Nat}(h1:1<=s)(hs:s<=5)(hP:P<2 ^ s){M:Mem}{t:T}{L:List Nat}(h:IsL M t L)(hl:L.length=2 ^ s)(hb:∀x∈L,x<2)(S:Nat->Bool):
  ∃b,Pk (glT gs) Fs Cs k 25 [N s,NL (rf (2 ^ s) S),N P,zX t] M=.ok (bT b,M)/\(b=true↔Open s S P (cB L)):=by
 obtain⟨b,e,hb'⟩:=qCB (k:=k-1) (by omega) h1 hs hP h hl hb S;refine⟨b,?_,hb'⟩;rw[qJ t25 ⟨rfl,by decide⟩ (by omega),b25,show Cs.getD 25 []=[] from rfl];have q1:=f6 (k:=k-1) (by omega) h1 hs M;have q2:=f8 (k:=k-1) (by omega) hs (O8 (2 ^ s) S) M;have q3:=jN (k:=k-1) (by omega) hs hP M;have q4:=f4 (k:=k-1) (by omega) hs M;have q5:=qCT (k:=k-1) (by omega) t "open" "told" 3 M;have q6:=qCT (k:=k-1) (by omega) t "open" "open" 2 M;have st:∀{M:Mem}{σ:TS}(x:Str),pe (glT gs) (Pk (glT gs) Fs Cs (k-1)) (.cst (V.str x)) σ M=.ok ((Ts x,true),M):=λ{M σ} x=>rfl;rw[show (decide (3=2)&&decide (("open":Str)="told"))=false from rfl]at q5;rw[show (decide (2=2)&&decide (("open":Str)="open"))=true from by simp]at q6;simp[zX,q1,q2,q3,q4,q5,q6,st,-pe_str,e,qA,bT]
end
end My
namespace My
open PySem PySem.Spec PI
open L2 (V)
open GF (Ris lp rch qg Told Open wd par)
theorem qAo{M:Mem}{t u:T}{L K:List Nat}(h:IsL M t L)(k:IsL M u K)(hl:L.length+K.length<=lim)(ht:t.mu M=some (L.map N))(hu:u.mu M=some (K.map N)):qk M .add t u=some (NL (L++K),true):=by
 unfold qk;rw[h.nv,k.nv];dsimp only;have e:((t.mu M).bind λxs=>(u.mu M).bind λys=>if xs.length+ys.length<=lim then some (lT (xs++ys)) else none)=some (NL (L++K),true):=by
  rw[ht,hu,Option.bind_some,Option.bind_some,if_pos (by simpa using hl),<-wT];unfold lT;rw[QF];rfl
 cases t with
 |tup ts=>exact absurd h.ty (by show some "tuple"≠some "list";decide)
 |_=>exact e
theorem qDg{M:Mem}{n:Nat}{L:List Nat}(h:IsL M (.cell n) L):(T.cell n).mu M=some (L.map N):=h.its
theorem qAq(M:Mem)(L:List Nat):(NL L).mu M=some (L.map N):=rfl
theorem thN(n m:Nat):thaw n (N m)=(N m,[]):=by simp[thaw,N]
theorem qBH(n:Nat)(x:Str):T.und n (Ts x)=true:=rfl
theorem qBz{M:Mem}{n0 c d:Nat}{A:List Nat}(h:M[c]?=some (A.map N))(hn:n0<=c):qH M n0 (d+1) (.cell c)=some (NL A):=by
 unfold qH;rw[if_neg (by unfold T.und;simp;omega)];dsimp only;rw[h,Option.bind_some,Qn _ (QF A)];rfl
theorem qA7{M:Mem}{n0 c d:Nat}{A:List Nat}(h:M[c]?=some (A.map N))(hn:n0<=c):zE M n0 (d+1) (.cell c)=some [c]:=by
 unfold zE;rw[if_neg (by rw[V6];decide)];dsimp only;rw[if_pos hn,h,Option.bind_some,G7 _ (QF A),Option.map_some,L7];rfl
theorem ZG{M C:Mem}(hW:WfM M){c1 c2:Nat}{A B:List Nat}(h1:(M++C)[c1]?=some (A.map N))(h2:(M++C)[c2]?=some (B.map N))(n1:M.length<=c1)(n2:M.length<=c2)(ne:c1≠c2)(f:Bool)(x:Str):JM M.length (.ok (.rt (.tup [Ts x,.cell c1,.cell c2],f),M++C))=.ok ((.tup [Ts x,NL A,NL B],true),M):=by
 show finish M.length _ _=_;unfold PI.finish;have hlt:=(List.getElem?_eq_some_iff.mp h1).1;rw[List.length_append]at hlt;rw[if_neg (by rw[List.length_append];omega),vP rfl,if_pos (show M.all (T.unds M.length)=true from hW)];have r:qH (M++C) M.length 6 (.tup [Ts x,.cell c1,.cell c2])=some (.tup [Ts x,NL A,NL B]):=by
  unfold qH;rw[if_neg (by simp[T.und,T.unds];intro _ h;omega)];dsimp only;rw[List.mapM_cons,List.mapM_cons,List.mapM_cons,List.mapM_nil,qBz h1 n1,qBz h2 n2,show qH (M++C) M.length 5 (Ts x)=some (Ts x) by unfold qH;rw[if_pos (qBH _ x)]];rfl
 have i:frR (M++C) M.length (.tup [Ts x,.cell c1,.cell c2])=true:=by
  unfold frR;rw[show zE (M++C) M.length 6 (.tup [Ts x,.cell c1,.cell c2])=some [c1,c2] by
   unfold zE;rw[if_neg (by simp)];dsimp only;rw[List.mapM_cons,List.mapM_cons,List.mapM_cons,List.mapM_nil,qA7 h1 n1,qA7 h2 n2,show zE (M++C) M.length 5 (Ts x)=some [] by unfold zE;rw[if_pos (show (Ts x).lf=true from rfl)]];rfl]
  simp[ne]
 dsimp only;rw[r,PR.ofO_some,PR.bind_ok,i,Bool.or_true]
theorem Jk{M C:Mem}(hW:WfM M){t:T}(hu:t.und M.length=true):JM M.length (.ok (.rt (t,true),M++C))=.ok ((t,true),M):=by
 show finish M.length _ _=_;unfold PI.finish;by_cases hb:(M++C).length=M.length
 ·have:C=[]:=List.length_eq_zero_iff.mp (by simp at hb;simp[hb]);subst this;rw[if_pos hb,List.append_nil]
 ·rw[if_neg hb,vP rfl,if_pos (show M.all (T.unds M.length)=true from hW)];rw[show qH (M++C) M.length 6 (t,true).1=some t by unfold qH;rw[if_pos hu]];rfl
theorem qBs(n:Nat)(L:List Nat):T.und n (NL L)=true:=by
 unfold NL T.und;exact Za _ _ (QF L)
theorem G6(n:Nat)(L:List Nat):T.und n (zX (NL L))=true:=by
 unfold zX T.und T.unds T.unds T.unds;rw[qBs];rfl
theorem thT(n:Nat)(sp pl:List Nat):thaw n (Qk sp pl)=(.tup [Ts "told",.cell n,.cell (n+1)],[sp.map N,pl.map N]):=by
 simp[Qk,thaw,jb,Ts,Zj]
theorem thO(n:Nat)(L:List Nat):thaw n (zX (NL L))=(.tup [Ts "open",.cell n],[L.map N]):=by
 simp[zX,thaw,jb,Ts,Zj]
theorem qAv(n:Nat)(x:V):thaw n (.v x)=(.v x,[]):=by simp[thaw]
section
variable{k:Nat}
def Pap(s:Nat)(S:Nat->Bool)(P:Nat)(t:T):Prop:=(∃sp pl,t=Qk sp pl/\Told s S P sp pl)\/∃L:List Nat,t=zX (NL L)/\L.length=2 ^ s/\(∀x∈L,x<2)/\Open s S P (cB L)
theorem m6{A B:List Nat}{n:Nat}(hl:A.length=n)(q:Nat):cB (A++B) q=if q<n then cB A q else cB B (q-n):=by
 unfold cB;rw[List.getD_eq_getElem?_getD,List.getD_eq_getElem?_getD,List.getD_eq_getElem?_getD];by_cases h:q<n
 ·rw[if_pos h,List.getElem?_append_left (by omega)]
 ·rw[if_neg h,List.getElem?_append_right (by omega),hl]
theorem jx{s P:Nat}{S c c':Nat->Bool}(hP:P<2 ^ s)(h:∀q,q<2 ^ s->c' q=c q)(o:Open s S P c):Open s S P c':=
 ⟨λq hq=>by rw[h q (by omega)];exact o.c1 q hq,by rw[h P hP];exact o.c2,λt ht hS=>by rw[GF.wd_congr s c' c t h ht];exact o.c3 t ht hS⟩
theorem qBb{s:Nat}(hs:s<=5){L:List Nat}(hl:L.length=2 ^ s)(hb:∀x∈L,x<2){q:Nat}(hq:q<2 ^ s):cB (wrd s L) q=wd s (cB L) q:=by
 show decide ((wrd s L).getD q 0=1)=_;rw[Qs hs hl hb hq];cases wd s (cB L) q<;>rfl
noncomputable def J7(s:Nat)(S:Nat->Bool)(L:List Nat):List Nat:=(List.range (2 ^ s)).map λx=>if S x=true then 0 else (wrd s L).getD x 0
theorem JZ(hk:9<=k){s:Nat}(hs:s<=4){S:Nat->Bool}{L:List Nat}(hl:L.length=2 ^ s){M:Mem}{c:Nat}(h:IsL M (.cell c) L):Pk (glT gs) Fs Cs k 23 [N (2 ^ s),NL (rf (2 ^ (s+1)) S),.cell c] M=.ok ((zX (NL (L++wrd s (J7 s S L))),true),M):=by
 have n5:=p5 (show s<=5 by omega);have p2:=GF.pw s;rw[qJ t23 ⟨rfl,by decide⟩ (by omega),b23,show Cs.getD 23 []=[] from rfl];have w:=f16 s (k:=k-1) (by omega) (by omega) h hl;have lw:=zL s L hl;have rg:=zP (n:=2 ^ s) (by omega);have cc:=u7 (gl:=glT gs) (P:=Pk (glT gs) Fs Cs (k-1)) (e:=pe (glT gs) (Pk (glT gs) Fs Cs (k-1)) (.ite (.cmp .inn (.var 0) (.var 1)) (nE 0) (.idx (.var 2) (.var 0)))) (M:=M) (σ:=[some (NL (rf (2 ^ (s+1)) S)),some (NL (wrd s L))]) (o:=none) (its:=List.range (2 ^ s)) (λx=>if S x=true then 0 else (wrd s L).getD x 0) (by simp[lim];omega) (λx hx=>by
  have:=(IsL.nl M (wrd s L)).idx (i:=x) (x:=(wrd s L).getD x 0) (getD_some (by have:=wF.mp hx;omega));have mm:=zg (n:=2 ^ (s+1)) (x:=x) (S:=S) (by have:=wF.mp hx;omega);generalize (wrd s L).getD x 0=z at *;have ci:∀{M:Mem},qo M .inn (N x) (NL (rf (2 ^ (s+1)) S))=some (S x):=λ{M}=>by rw[W7,mm]
  generalize rf (2 ^ (s+1)) S=lo at *;cases q:S x<;>rw[q]at ci<;>simp[ci,this])
 have cc:qb _ _ _ _ _ _ _ _ _=.ok ((NL (J7 s S L),true),M):=cc;have lH:(J7 s S L).length=2 ^ s:=by unfold J7;simp
 generalize J7 s S L=H at *;have w2:=f16 s (k:=k-1) (by omega) (by omega) (IsL.nl M H) lH;have lw2:=zL s H lH;have ad:qk M .add (.cell c) (NL (wrd s H))=some (NL (L++wrd s H),true):=qAo h (IsL.nl M _) (by simp[lim];omega) (qDg h) (qAq _ _);generalize rf (2 ^ (s+1)) S=lo at *;simp[w,rg,cc,-jK,w2,ad,lim,qA,zX,Ts]
theorem Q8{s P:Nat}(hs:s<=4)(hP:P<2 ^ s){S:Nat->Bool}{L:List Nat}(hl:L.length=2 ^ s)(hb:∀x∈L,x<2)(o:Open s (λt=>S t||S (t+2 ^ s)) P (cB L)):(L++wrd s (J7 s S L)).length=2 ^ (s+1)/\(∀x∈L++wrd s (J7 s S L),x<2)/\Open (s+1) S P (cB (L++wrd s (J7 s S L))):=by
 have p2:=GF.pw s;obtain⟨H,hH⟩:∃H,H=J7 s S L:=⟨_,rfl⟩
 have lH:H.length=2 ^ s:=by rw[hH];simp[J7]
 have gH:∀q,q<2 ^ s->H.getD q 0=(GF.hid s S (cB L) q).toNat:=λq hq=>by
  rw[hH];unfold J7;rw[List.getD_eq_getElem?_getD,wP,List.getElem?_range hq,Option.map_some,vB,Qs (by omega) hl hb hq];unfold GF.hid;cases S q<;>rfl
 have bH:∀x∈H,x<2:=λx hx=>by
  obtain⟨i,hi,e⟩:=wt.mp hx;have:=gH i (by omega);rw[List.getD_eq_getElem?_getD,wA hi,vB,e]at this;rw[this];exact Bool.toNat_lt _
 have cH:∀q,q<2 ^ s->cB H q=GF.hid s S (cB L) q:=λq hq=>by
  show decide (H.getD q 0=1)=_;rw[gH q hq];cases GF.hid s S (cB L) q<;>rfl
 rw[<-hH];have lw2:=zL s H lH;refine⟨by rw[List.length_append,hl,lw2];omega,λx hx=>?_,jx (by omega) (λq hq=>?_) (GF.open_first hP o)⟩
 ·rcases wD.mp hx with h|h
  ·exact hb x h
  ·exact P8 lH bH x h
 ·rw[m6 hl];by_cases h:q<2 ^ s
  ·rw[if_pos h,if_pos h]
  ·rw[if_neg h,if_neg h,qBb (by omega) lH bH (by omega)];exact GF.wd_congr s _ _ _ cH (by omega)
theorem qFH{P:Nat->List T->Mem->PR (TB×Mem)}{M:Mem}{t:T}{half c:Nat}{sp:List Nat}(h:IsL M (.cell c) sp)(hl:sp.length<=100)(ht:t.lf=false):pxs (glT gs) P [] x22 [some (N half),some (.cell c),some t] M=.ok (.rt (.tup [Ts "told",.cell M.length,t],false),M++[(sp++sp.map (half + ·)).map N]):=by
 obtain⟨d,s1,_,s2⟩:=h.src;have cc:=zA (d:=d) (c:=pec (glT gs) P .nil) (e:=pe (glT gs) P (.bin .add (.var 1) (.var 0))) (M:=M) (σ:=[some (N half)]) (o:=none) (its:=sp) (λ_=>true) (half + ·) s2 (by simp[lim];omega) (λx _=>by simp) (λx _ _=>by simp);rw[qd]at cc;have ad:qk M .add (.cell c) (NL (sp.map (half + ·)))=some (NL (sp++sp.map (half + ·)),true):=qAo h (IsL.nl M _) (by simp[lim];omega) (qDg h) (qAq _ _);have st:∀{M:Mem}{σ:TS}(x:Str),pe (glT gs) P (.cst (V.str x)) σ M=.ok ((Ts x,true),M):=λ{M σ} x=>rfl;rw[x22,qAb,V9];simp[zQ,zm,st,-pe_str,s1,cc,-jK,ad,Zj,qAv,Ts,ht,lim]
theorem qFp(hk:1<=k){s:Nat}(hs:s<=4){M:Mem}{c e:Nat}{sp pl:List Nat}(h:IsL M (.cell c) sp)(h2:IsL M (.cell e) pl)(r1:Ris 0 (2 ^ s) sp)(hpl:pl.length<=100)(S:Nat->Bool):
  pxs (glT gs) (Pk (glT gs) Fs Cs k) [] x24 [some (N (2 ^ s)),some (NL (rf (2 ^ (s+1)) S)),some (.cell c),some (.cell e),none,none,none] M=.ok (.rt (.tup [Ts "told",.cell M.length,.cell (M.length+1)],false),M++[(sp.filter (λx=>S (2 ^ s+x))++(sp.filter λx=>!S (2 ^ s+x)).map (2 ^ s + ·)).map N,(((List.range (2 ^ s)).filter λp=>qg (sp.filter λx=>S (2 ^ s+x)) (rch p))++pl.map (2 ^ s + ·)).map N]):=by
 have n5:=p5 (show s<=5 by omega);have p2:=GF.pw s;have ll:=zU r1;obtain⟨d1,s1,_,g1⟩:=h.src;obtain⟨d2,s2,_,g2⟩:=h2.src;have mem:∀x∈sp,decide (2 ^ s+x∈rf (2 ^ (s+1)) S)=S (2 ^ s+x):=λx hx=>zg (by have:=(GF.Ris.mem r1 x hx).2;omega);have c1:=zA (M:=M) (o:=none) (σ:=[some (N (2 ^ s)),some (NL (rf (2 ^ (s+1)) S))]) (its:=sp) (c:=pec (glT gs) (Pk (glT gs) Fs Cs k) (.cons (.cmp .notin (.bin .add (.var 1) (.var 0)) (.var 2)) .nil)) (e:=pe (glT gs) (Pk (glT gs) Fs Cs k) (.bin .add (.var 1) (.var 0))) (λx=>!S (2 ^ s+x)) (2 ^ s + ·) g1 (by simp[lim];omega) (λx hx=>by simp[JC,-List.mem_filter,mem x hx]) (λx _ _=>by simp);have c2:=zA (M:=M) (o:=none) (σ:=[some (N (2 ^ s)),some (NL (rf (2 ^ (s+1)) S))]) (its:=sp) (c:=pec (glT gs) (Pk (glT gs) Fs Cs k) (.cons (.cmp .inn (.bin .add (.var 1) (.var 0)) (.var 2)) .nil)) (e:=pe (glT gs) (Pk (glT gs) Fs Cs k) (.var 0)) (λx=>S (2 ^ s+x)) (λx=>x) g1 (by simp[lim];omega) (λx hx=>by simp[W7,-List.mem_filter,mem x hx]) (λx _ _=>by simp);rw[List.map_id']at c2;have lA:(sp.filter λx=>S (2 ^ s+x)).length<=sp.length:=wo _ _;have lB:(sp.filter λx=>!S (2 ^ s+x)).length<=sp.length:=wo _ _;generalize hA:sp.filter (λx=>S (2 ^ s+x))=A at *;generalize hB:sp.filter (λx=>!S (2 ^ s+x))=B at *;have c3:=jR (M:=M) (o:=none) (σ:=[some (NL A)]) (its:=List.range (2 ^ s)) (c:=pec (glT gs) (Pk (glT gs) Fs Cs k) (.cons (.cmp .eq (.call 12 (.cons (.comp (.list (.var 1)) [none,some 0] (.name 0) (.cons (.call 17 (.cons (.var 1) (.cons (.var 0) .nil))) .nil) (nE 1)) .nil)) (nE 1)) .nil)) (e:=pe (glT gs) (Pk (glT gs) Fs Cs k) (.var 0)) (λp=>qg A (rch p)) (λx=>x) (by simp[lim];omega) (λx hx=>by
  have cR:=qBL (k:=k) (by omega) (sp:=A) (by omega) x M (o:=none) (d:=[]) rfl;have sm:=qB5 (k:=k) (by omega) ((A.filter (rch x)).map λ_=>1) M;rw[QP,GF.lpar_len]at sm;rw[ql];generalize (A.filter (rch x)).map (λ_=>1)=B2 at *;generalize qg A (rch x)=bb at *;cases bb<;>simp[-ql,cR,sm]) (λx _ _=>by simp)
 rw[List.map_id']at c3;have lC:((List.range (2 ^ s)).filter λp=>qg A (rch p)).length<=2 ^ s:=Nat.le_trans (wo _ _) (by simp);generalize ((List.range (2 ^ s)).filter λp=>qg A (rch p))=D at *;have ad1:∀{M:Mem},qk M .add (NL A) (NL (B.map (2 ^ s + ·)))=some (NL (A++B.map (2 ^ s + ·)),true):=λ{M}=>R9 (by simp[lim];omega);have ad2:∀{M:Mem},qk M .add (NL D) (NL (pl.map (2 ^ s + ·)))=some (NL (D++pl.map (2 ^ s + ·)),true):=λ{M}=>R9 (by simp[lim];omega);generalize A++B.map (2 ^ s + ·)=AB at *;have h2':IsL (M++[AB.map N]) (.cell e) pl:=IsL.cell (by have:=h2.its;rw[List.getElem?_append_left (List.getElem?_eq_some_iff.mp this).1];exact this);obtain⟨d3,s3,_,g3⟩:=h2'.src;have c4:=zA (d:=d3) (c:=pec (glT gs) (Pk (glT gs) Fs Cs k) .nil) (e:=pe (glT gs) (Pk (glT gs) Fs Cs k) (.bin .add (.var 1) (.var 0))) (M:=M++[AB.map N]) (σ:=[some (N (2 ^ s))]) (o:=none) (its:=pl) (λ_=>true) (2 ^ s + ·) g3 (by simp[lim];omega) (λx _=>by simp) (λx _ _=>by simp);rw[qd]at c4;have rg:=zP (n:=2 ^ s) (by omega);have st:∀{M:Mem}{σ:TS}(x:Str),pe (glT gs) (Pk (glT gs) Fs Cs k) (.cst (V.str x)) σ M=.ok ((Ts x,true),M):=λ{M σ} x=>rfl;generalize rf (2 ^ (s+1)) S=lo at *;rw[x24];simp[s1,c1,c2,rg,c3,-jK,-ql,V9,zQ,zm,st,-pe_str,ad1,Zj,qAv,Ts,s3,c4,ad2,lim]
theorem qDz{P:Nat->List T->Mem->PR (TB×Mem)}{M:Mem}{half:Nat}{lo sp pl:List Nat}(hl:sp.length<=100):pxs (glT gs) P [] x20 [some (N half),some (NL lo),some (.tup [Ts "told",.cell M.length,.cell (M.length+1)])] (M++[sp.map N,pl.map N])=.ok (.rt (.tup [Ts "told",.cell (M.length+2),.cell (M.length+1)],false),M++[sp.map N,pl.map N]++[(sp++sp.map (half + ·)).map N]):=by
 have i:=qFH (P:=P) (M:=M++[sp.map N,pl.map N]) (t:=.cell (M.length+1)) (half:=half) (c:=M.length) (sp:=sp) (IsL.cell (by simp)) hl (by simp);rw[List.length_append]at i;have st:∀{M:Mem}{σ:TS}(x:Str),pe (glT gs) P (.cst (V.str x)) σ M=.ok ((Ts x,true),M):=λ{M σ} x=>rfl;have lfT:∀x,T.lf (Ts x)=true:=λx=>rfl;have ts:∀{M:Mem},qo M .eq (Ts "told") (Ts "told")=some true:=λ{M}=>by rw[ZQ,vX rfl]
 rw[x20];generalize hM:M++[sp.map N,pl.map N]=M2 at *;simp[st,-pe_str,lfT,ts,ZO,zQ,zm,thaw,i]
theorem qCu(hk:9<=k){M:Mem}{s:Nat}(hs:s<=4){S:Nat->Bool}{L:List Nat}(hl:L.length=2 ^ s):pxs (glT gs) (Pk (glT gs) Fs Cs k) [] x20 [some (N (2 ^ s)),some (NL (rf (2 ^ (s+1)) S)),some (.tup [Ts "open",.cell M.length])] (M++[L.map N])=.ok (.rt (zX (NL (L++wrd s (J7 s S L))),true),M++[L.map N]):=by
 have e:=JZ hk hs (S:=S) hl (M:=M++[L.map N]) (c:=M.length) (IsL.cell (by simp));have st:∀{M:Mem}{σ:TS}(x:Str),pe (glT gs) (Pk (glT gs) Fs Cs k) (.cst (V.str x)) σ M=.ok ((Ts x,true),M):=λ{M σ} x=>rfl;have lfT:∀x,T.lf (Ts x)=true:=λx=>rfl;have ts:∀{M:Mem},qo M .eq (Ts "open") (Ts "told")=some false:=λ{M}=>by rw[ZQ];rfl
 rw[x20];generalize M++[L.map N]=M2 at *;generalize rf (2 ^ (s+1)) S=lo at *;simp[st,-pe_str,lfT,ts,e]
theorem qD0(hk:1<=k){M:Mem}{s:Nat}(hs:s<=4){sp pl:List Nat}(r1:Ris 0 (2 ^ s) sp)(hpl:pl.length<=100)(S:Nat->Bool):pxs (glT gs) (Pk (glT gs) Fs Cs k) [] x21 [some (N (2 ^ s)),some (NL (rf (2 ^ (s+1)) S)),some (.tup [Ts "told",.cell M.length,.cell (M.length+1)])] (M++[sp.map N,pl.map N])=.ok (.rt (.tup [Ts "told",.cell (M.length+2),.cell (M.length+2+1)],false),M++[sp.map N,pl.map N]++[(sp.filter (λx=>S (2 ^ s+x))++(sp.filter λx=>!S (2 ^ s+x)).map (2 ^ s + ·)).map N,(((List.range (2 ^ s)).filter λp=>qg (sp.filter λx=>S (2 ^ s+x)) (rch p))++pl.map (2 ^ s + ·)).map N]):=by
 have i:=qFp hk hs (M:=M++[sp.map N,pl.map N]) (c:=M.length) (e:=M.length+1) (IsL.cell (by simp)) (IsL.cell (by simp)) r1 hpl S;rw[List.length_append]at i;have st:∀{M:Mem}{σ:TS}(x:Str),pe (glT gs) (Pk (glT gs) Fs Cs k) (.cst (V.str x)) σ M=.ok ((Ts x,true),M):=λ{M σ} x=>rfl;have lfT:∀x,T.lf (Ts x)=true:=λx=>rfl;have ts:∀{M:Mem},qo M .eq (Ts "told") (Ts "told")=some true:=λ{M}=>by rw[ZQ,vX rfl]
 rw[x21];generalize hM:M++[sp.map N,pl.map N]=M2 at *;generalize (sp.filter (λx=>S (2 ^ s+x))++(sp.filter λx=>!S (2 ^ s+x)).map (2 ^ s + ·)).map N=a1 at *;generalize (((List.range (2 ^ s)).filter λp=>qg (sp.filter λx=>S (2 ^ s+x)) (rch p))++pl.map (2 ^ s + ·)).map N=a2 at *;generalize rf (2 ^ (s+1)) S=lo at *;simp[st,-pe_str,lfT,ts,ZO,zQ,zm,thaw,i,JA]
theorem qCt{P:Nat->List T->Mem->PR (TB×Mem)}{M:Mem}{s:Nat}(hs:s<=4){lo L:List Nat}(hl:L.length=2 ^ s):pxs (glT gs) P [] x21 [some (N (2 ^ s)),some (NL lo),some (.tup [Ts "open",.cell M.length])] (M++[L.map N])=.ok (.rt (zX (NL (List.replicate (2 ^ s) 0++L)),true),M++[L.map N]):=by
 have n5:=p5 (show s<=5 by omega);have st:∀{M:Mem}{σ:TS}(x:Str),pe (glT gs) P (.cst (V.str x)) σ M=.ok ((Ts x,true),M):=λ{M σ} x=>rfl;have lfT:∀x,T.lf (Ts x)=true:=λx=>rfl;have ts:∀{M:Mem},qo M .eq (Ts "open") (Ts "told")=some false:=λ{M}=>by rw[ZQ];rfl
 have ml:∀{M:Mem},qk M .mul (.lst [N 0]) (N (2 ^ s))=some (NL (List.replicate (2 ^ s) 0),true):=λ{M}=>by
  show (if 0<=((2 ^ s:Nat):Int)/\[N 0].length*((2 ^ s:Nat):Int).toNat<=lim/\((2 ^ s:Nat):Int)<1000000 then some (lT (List.replicate ((2 ^ s:Nat):Int).toNat [N 0]).flatten) else none)=_;rw[wy,if_pos ⟨by omega,Nat.le_trans (show 1*2 ^ s<=32 by omega) (by decide),by omega⟩,List.flatten_replicate_singleton,show List.replicate (2 ^ s) (N 0)=(List.replicate (2 ^ s) 0).map N by rw[List.map_replicate]];unfold lT;rw[QF];rfl
 have ad:qk (M++[L.map N]) .add (NL (List.replicate (2 ^ s) 0)) (.cell M.length)=some (NL (List.replicate (2 ^ s) 0++L),true):=qAo (IsL.nl _ _) (IsL.cell (by simp)) (by simp[lim];omega) (qAq _ _) (qDg (IsL.cell (by simp)));rw[x21];generalize M++[L.map N]=M2 at *;simp[st,-pe_str,lfT,ts,ml,ad,lim,zX]
theorem jS:∀(s:Nat){k:Nat}(hk:s+11<=k) (hs:s<=5) (S:Nat->Bool){P:Nat}(hP:P<2 ^ s),∃t,Pap s S P t/\∀M:Mem,WfM M->Pk (glT gs) Fs Cs k 19 [N (2 ^ s),NL (rf (2 ^ s) S),N P] M=.ok ((t,true),M)
 | 0,k,hk,hs,S,P,hP=>by
  have:P=0:=by omega
  subst this;have st:∀{M:Mem}{σ:TS}(x:Str),pe (glT gs) (Pk (glT gs) Fs Cs (k-1)) (.cst (V.str x)) σ M=.ok ((Ts x,true),M):=λ{M σ} x=>rfl;have rf1:rf (2 ^ 0) S=if S 0 then [0] else []:=by
   show (List.range 1).filter S=_;rw[show List.range 1=[0] from rfl];cases q:S 0<;>simp[q]
  have nl:∀(M:Mem),qo M .eq (.lst []) (.lst [])=some true:=λM=>rfl;have nl2:∀(M:Mem),qo M .eq (.lst [N 0]) (.lst [])=some false:=λM=>rfl;cases q:S 0 with
  |false=>
   refine⟨Qk [0] [],.inl ⟨_,_,rfl,GF.told_one q⟩,λM _=>?_⟩;rw[qJ t19 ⟨rfl,by decide⟩ (by omega),b19,show Cs.getD 19 []=[] from rfl,rf1,q];simp[nl,nl2,st,-pe_str,lim,qA,Qk,NL]
  |true=>
   refine⟨zX (NL [1]),.inr ⟨_,rfl,rfl,λx hx=>by simp at hx;omega,jx (by decide) (λq hq=>by rw[show q=0 by omega];rfl) (GF.open_one q)⟩,λM _=>?_⟩;rw[qJ t19 ⟨rfl,by decide⟩ (by omega),b19,show Cs.getD 19 []=[] from rfl,rf1,q];simp[nl,nl2,st,-pe_str,lim,qA,zX,NL]
 |s+1,k,hk,hs,S,P,hP=>by
  have p2:=GF.pw s;have n5:=p5 (show s<=5 by omega);have hp0:0<2 ^ s:=vT (by decide);have n1:¬ 2 ^ (s+1)=1:=by omega
  have fd:∀{M:Mem},qk M .fdiv (N (2 ^ (s+1))) (N 2)=some (N (2 ^ s),true):=λ{M}=>by rw[Qw (by decide),p2,show (2 ^ s+2 ^ s) / 2=2 ^ s by omega]
  have eh:=f9 (k:=k-1) (by omega) (L:=rf (2 ^ (s+1)) S) (half:=2 ^ s) (by omega);rw[show hE (2 ^ s) (rf (2 ^ (s+1)) S)=rf (2 ^ s) λt=>S t||S (t+2 ^ s) by rw[p2];exact qDy _ _,show hB (2 ^ s) (rf (2 ^ (s+1)) S)=rf (2 ^ s) λt=>S t&&S (t+2 ^ s) by rw[p2];exact qC9 _ _]at eh;by_cases h:P<2 ^ s
  ·obtain⟨t,pp,e⟩:=jS s (k:=k-1) (by omega) (by omega) (λt=>S t||S (t+2 ^ s)) h;have c:∀{M:Mem},qo M .lt (N P) (N (2 ^ s))=some true:=λ{M}=>by rw[J9,vX h]
   rcases pp with⟨sp,pl,rfl,td⟩|⟨L,rfl,hl,hb,op⟩
   ·have l1:=zU td.r1;refine⟨_,.inl ⟨_,_,rfl,GF.told_first h td⟩,λM hW=>?_⟩;have e:=e M hW;have eh:=eh M;have i:=qDz (P:=Pk (glT gs) Fs Cs (k-1)) (M:=M) (half:=2 ^ s) (lo:=rf (2 ^ (s+1)) S) (sp:=sp) (pl:=pl) (by omega);have th:=thT M.length sp pl;have lv:=ZG hW (C:=[sp.map N,pl.map N]++[(sp++sp.map (2 ^ s + ·)).map N]) (c1:=M.length+2) (c2:=M.length+1) (A:=sp++sp.map (2 ^ s + ·)) (B:=pl) (by simp[vM]) (by simp[vM]) (by omega) (by omega) (by omega) false "told";rw[<-List.append_assoc]at lv;rw[qJ t19 ⟨rfl,by decide⟩ (by omega),b19,show Cs.getD 19 []=[] from rfl];clear h td;generalize (sp++sp.map (2 ^ s + ·))=sp2 at *;generalize rf (2 ^ (s+1)) S=lo at *;generalize rf (2 ^ s) (λt=>S t||S (t+2 ^ s))=l1 at *;generalize rf (2 ^ s) (λt=>S t&&S (t+2 ^ s))=l2 at *;generalize Qk sp pl=tt at *;simp[n1,fd,eh,c,-J9,ZO,zQ,zm,qAv,e,th,i,lv,Qk,-List.append_assoc,JA,thN]
   ·obtain⟨u1,u2,u3⟩:=Q8 (s:=s) (by omega) h hl hb op;refine⟨_,.inr ⟨_,rfl,u1,u2,u3⟩,λM hW=>?_⟩;have e:=e M hW;have eh:=eh M;have i:=qCu (k:=k-1) (by omega) (M:=M) (s:=s) (by omega) (S:=S) hl;have th:=thO M.length L;have lv:=Jk hW (C:=[L.map N]) (G6 M.length (L++wrd s (J7 s S L)));rw[qJ t19 ⟨rfl,by decide⟩ (by omega),b19,show Cs.getD 19 []=[] from rfl];clear h op u1 u2 u3;generalize (L++wrd s (J7 s S L))=L2 at *;generalize rf (2 ^ (s+1)) S=lo at *;generalize rf (2 ^ s) (λt=>S t||S (t+2 ^ s))=l1 at *;generalize rf (2 ^ s) (λt=>S t&&S (t+2 ^ s))=l2 at *;generalize zX (NL L2)=t2 at *;generalize zX (NL L)=tt at *;simp[n1,fd,eh,c,-J9,ZO,zQ,zm,qAv,e,th,i,lv,JA,thN]
  ·obtain⟨Q,rfl⟩:∃Q,P=2 ^ s+Q:=⟨P-2 ^ s,by omega⟩
   have hQ:Q<2 ^ s:=by omega
   obtain⟨t,pp,e⟩:=jS s (k:=k-1) (by omega) (by omega) (λt=>S t&&S (t+2 ^ s)) hQ;have c:∀{M:Mem},qo M .lt (N (2 ^ s+Q)) (N (2 ^ s))=some false:=λ{M}=>by rw[J9,vW h]
   have sb:∀{M:Mem},qk M .sub (N (2 ^ s+Q)) (N (2 ^ s))=some (N Q,true):=λ{M}=>by rw[i6 (by omega),wI]
   rcases pp with⟨sp,pl,rfl,td⟩|⟨L,rfl,hl,hb,op⟩
   ·have l2:=zU td.r2;refine⟨_,.inl ⟨_,_,rfl,GF.told_second hQ td⟩,λM hW=>?_⟩;have e:=e M hW;have eh:=eh M;have i:=qD0 (k:=k-1) (by omega) (M:=M) (s:=s) (by omega) (sp:=sp) (pl:=pl) td.r1 (by omega) S;have th:=thT M.length sp pl;generalize (sp.filter (λx=>S (2 ^ s+x))++(sp.filter λx=>!S (2 ^ s+x)).map (2 ^ s + ·))=a1 at *;generalize (((List.range (2 ^ s)).filter λp=>qg (sp.filter λx=>S (2 ^ s+x)) (rch p))++pl.map (2 ^ s + ·))=a2 at *;have lv:=ZG hW (C:=[sp.map N,pl.map N]++[a1.map N,a2.map N]) (c1:=M.length+2) (c2:=M.length+2+1) (A:=a1) (B:=a2) (by simp[vM]) (by rw[List.getElem?_append_right (by omega),show M.length+2+1-M.length=3 by omega];rfl) (by omega) (by omega) (by omega) false "told";rw[<-List.append_assoc]at lv;rw[qJ t19 ⟨rfl,by decide⟩ (by omega),b19,show Cs.getD 19 []=[] from rfl];clear h td;generalize rf (2 ^ (s+1)) S=lo at *;generalize rf (2 ^ s) (λt=>S t||S (t+2 ^ s))=l1 at *;generalize rf (2 ^ s) (λt=>S t&&S (t+2 ^ s))=l2 at *;generalize Qk sp pl=tt at *;simp[n1,fd,eh,c,-J9,sb,ZO,zQ,zm,qAv,e,th,i,lv,Qk,-List.append_assoc,JA,thN]
   ·refine⟨_,.inr ⟨List.replicate (2 ^ s) 0++L,rfl,by rw[List.length_append,List.length_replicate,hl,wU];omega,λx hx=>?_,jx (by omega) (λq _=>?_) (GF.open_second op)⟩,λM hW=>?_⟩
    ·rcases wD.mp hx with h|h
     ·rw[List.eq_of_mem_replicate h];decide
     ·exact hb x h
    ·rw[m6 (n:=2 ^ s) (by simp)];by_cases h:q<2 ^ s
     ·rw[if_pos h,if_pos h];show decide ((List.replicate (2 ^ s) 0).getD q 0=1)=false;rw[List.getD_eq_getElem?_getD,List.getElem?_replicate,if_pos h];rfl
     ·rw[if_neg h,if_neg h]
    have e:=e M hW;have eh:=eh M;have i:=qCt (P:=Pk (glT gs) Fs Cs (k-1)) (M:=M) (s:=s) (by omega) (lo:=rf (2 ^ (s+1)) S) hl;have th:=thO M.length L;have lv:=Jk hW (C:=[L.map N]) (G6 M.length (List.replicate (2 ^ s) 0++L));rw[qJ t19 ⟨rfl,by decide⟩ (by omega),b19,show Cs.getD 19 []=[] from rfl];clear h op;generalize (List.replicate (2 ^ s) 0++L)=L2 at *;generalize rf (2 ^ (s+1)) S=lo at *;generalize rf (2 ^ s) (λt=>S t||S (t+2 ^ s))=l1 at *;generalize rf (2 ^ s) (λt=>S t&&S (t+2 ^ s))=l2 at *;generalize zX (NL L2)=t2 at *;generalize zX (NL L)=tt at *;simp[n1,fd,eh,c,-J9,sb,ZO,zQ,zm,qAv,e,th,i,lv,JA,thN]
theorem c9(hk:17<=k){s P:Nat}(h1:1<=s)(hs:s<=5)(hP:P<2 ^ s)(S:Nat->Bool):∃t,Pap s S P t/\∀M:Mem,WfM M->Pk (glT gs) Fs Cs k 18 [N s,NL (rf (2 ^ s) S),N P] M=.ok ((t,true),M):=by
 obtain⟨t,pp,e⟩:=jS s (k:=k-1) (by omega) hs S hP;refine⟨t,pp,λM hW=>?_⟩;have e:=e M hW;have q1:=f6 (k:=k-1) (by omega) h1 hs M;have q2:=f8 (k:=k-1) (by omega) hs (O8 (2 ^ s) S) M;have q3:=jN (k:=k-1) (by omega) hs hP M;have q4:=f4 (k:=k-1) (by omega) hs M;rw[qJ t18 ⟨rfl,by decide⟩ (by omega),b18,show Cs.getD 18 []=[] from rfl];generalize rf (2 ^ s) S=lo at *;simp[q1,q2,q3,q4,e,qA]
end
end My
namespace My
open PySem PySem.Spec PI
open L2 (V)
open GF (Ris lp rch qg Told Open wd par)
noncomputable abbrev Bl(b:Bool):T:=.v (.bl b)
theorem qAI:∀L:List Bool,T.lfs (L.map Bl)=true
 | []=>rfl
 |x::L=>by rw[List.map_cons,QM,qAI L];rfl
theorem f7{L:List Bool}{i:Nat}(h:i<L.length):(L.map Bl)[i]?=some (Bl (L.getD i false)):=by
 rw[wP,List.getD_eq_getElem?_getD,wA h];rfl
noncomputable def Qb:Nat->List Bool->List Bool
 | 0,L=>L
 |s+1,L=>Qb s ((List.range (2 ^ s)).map λt=>L.getD t false||L.getD (t+2 ^ s) false)++Qb s ((List.range (2 ^ s)).map λt=>L.getD t false&&L.getD (t+2 ^ s) false)
theorem ja:∀(s:Nat) (L:List Bool),L.length=2 ^ s->(Qb s L).length=2 ^ s
 | 0,L,h=>h
 |s+1,L,h=>by rw[Qb,List.length_append,ja s _ (by simp),ja s _ (by simp),wU];omega
theorem R6{gl:List T}{P:Nat->List T->Mem->PR (TB×Mem)}{e:TS->Mem->PR (TB×Mem)}{M:Mem}{σ:TS}{o:Option T}{its:List Nat}(g:Nat->Bool)(hl:its.length<=lim)(he:∀x∈its,e (some (N x)::σ) M=.ok ((Bl (g x),true),M)):
  qb [] (.name 0) (pec gl P .nil) e (its.map N) [] true (o::σ) M=.ok ((.lst ((its.map g).map Bl),true),M):=by
 have z:=Qi (c:=pec gl P .nil) (e:=e) (M:=M) (σ:=σ) (λ_=>true) (λi=>Bl (g i)) (λ_=>true) its [] true o (by simpa using hl) (λx _=>by simp) (λi hi _=>he i hi);rw[qd,List.nil_append]at z;rw[z,wa];simp[Function.comp_def]
section
variable{k:Nat}
theorem f33:∀(s:Nat) (k:Nat),s+1<=k->s<=5->∀{M:Mem}{t:T}{L:List Bool},IsS M t (L.map Bl)->L.length=2 ^ s->Pk (glT gs) Fs Cs k 33 [t] M=.ok ((.lst ((Qb s L).map Bl),true),M)
 | 0,k,hk,_,M,t,L,h,hl=>by
  rw[qJ t33 ⟨rfl,by decide⟩ (by omega),b33,show Cs.getD 33 []=[] from rfl];have e1:=h.len;have e2:=h.list;rw[wR,hl]at e1;have l1:lT (L.map Bl)=(.lst (L.map Bl),true):=by unfold lT;rw[qAI]
  rw[l1]at e2;simp[e1,e2,qA,Qb]
 |s+1,k,hk,hs,M,t,L,h,hl=>by
  rw[qJ t33 ⟨rfl,by decide⟩ (by omega),b33,show Cs.getD 33 []=[] from rfl];have e1:=h.len;rw[wR,hl]at e1;have hp:2 ^ s<=32:=Nat.le_trans (vA (by decide) (show s<=5 by omega)) (by decide);have h0:0<2 ^ s:=vT (by decide);have hl2:L.length=2 ^ s+2 ^ s:=by rw[hl,wU];omega
  have c1:¬ (2 ^ (s+1)=1):=by rw[wU];omega
  have d1:∀{M:Mem},qk M .fdiv (N (2 ^ (s+1))) (N 2)=some (N (2 ^ s),true):=λ{M}=>by
   rw[Qw (by decide),wU,Nat.mul_div_cancel _ (by decide)]
  have rg:=zP (n:=2 ^ s) (by omega);have z1:=R6 (gl:=glT gs) (P:=Pk (glT gs) Fs Cs (k-1)) (e:=pe (glT gs) (Pk (glT gs) Fs Cs (k-1)) (.or (.idx (.var 2) (.var 0)) (.idx (.var 2) (.bin .add (.var 0) (.var 1))))) (M:=M) (σ:=[some (N (2 ^ s)),some t]) (o:=none) (its:=List.range (2 ^ s)) (λi=>L.getD i false||L.getD (i+2 ^ s) false) (by unfold lim;simp;omega) (λi hi=>by
   rw[wF]at hi;have g1:JF M t (N i)=some (Bl (L.getD i false),true):=by rw[h.idx,f7 (by omega)];rfl
   have g2:JF M t (N (i+2 ^ s))=some (Bl (L.getD (i+2 ^ s) false),true):=by rw[h.idx,f7 (by omega)];rfl
   generalize L.getD i false=x at *;generalize L.getD (i+2 ^ s) false=y at *;cases x<;>simp[g1,g2,bT])
  have z2:=R6 (gl:=glT gs) (P:=Pk (glT gs) Fs Cs (k-1)) (e:=pe (glT gs) (Pk (glT gs) Fs Cs (k-1)) (.and (.idx (.var 2) (.var 0)) (.idx (.var 2) (.bin .add (.var 0) (.var 1))))) (M:=M) (σ:=[some (N (2 ^ s)),some t]) (o:=none) (its:=List.range (2 ^ s)) (λi=>L.getD i false&&L.getD (i+2 ^ s) false) (by unfold lim;simp;omega) (λi hi=>by
   rw[wF]at hi;have g1:JF M t (N i)=some (Bl (L.getD i false),true):=by rw[h.idx,f7 (by omega)];rfl
   have g2:JF M t (N (i+2 ^ s))=some (Bl (L.getD (i+2 ^ s) false),true):=by rw[h.idx,f7 (by omega)];rfl
   generalize L.getD i false=x at *;generalize L.getD (i+2 ^ s) false=y at *;cases x<;>simp[g1,g2,bT])
  have q1:=f33 s (k-1) (by omega) (by omega) (M:=M) (t:=.lst (((List.range (2 ^ s)).map λt=>L.getD t false||L.getD (t+2 ^ s) false).map Bl)) (.inl rfl) (by simp);have q2:=f33 s (k-1) (by omega) (by omega) (M:=M) (t:=.lst (((List.range (2 ^ s)).map λt=>L.getD t false&&L.getD (t+2 ^ s) false).map Bl)) (.inl rfl) (by simp);have n1:=ja s ((List.range (2 ^ s)).map λt=>L.getD t false||L.getD (t+2 ^ s) false) (by simp);have n2:=ja s ((List.range (2 ^ s)).map λt=>L.getD t false&&L.getD (t+2 ^ s) false) (by simp);rw[Qb];generalize Qb s ((List.range (2 ^ s)).map λt=>L.getD t false||L.getD (t+2 ^ s) false)=P1 at *;generalize Qb s ((List.range (2 ^ s)).map λt=>L.getD t false&&L.getD (t+2 ^ s) false)=P2 at *;generalize (((List.range (2 ^ s)).map λt=>L.getD t false||L.getD (t+2 ^ s) false).map Bl)=U1 at *;generalize (((List.range (2 ^ s)).map λt=>L.getD t false&&L.getD (t+2 ^ s) false).map Bl)=U2 at *;have ad:∀{M:Mem},qk M .add (.lst (P1.map Bl)) (.lst (P2.map Bl))=some (.lst ((P1++P2).map Bl),true):=λ{M}=>by
   rw[T9 (by simp[lim];omega),<-wT];unfold lT;rw[qAI]
  simp only[wT]at ad ⊢;simp[e1,c1,d1,rg,z1,z2,q1,q2,ad,qA]
end
theorem jg:∀(s:Nat){S S':Nat->Bool}{p:Nat},(∀t,t<2 ^ s->S t=S' t)->p<2 ^ s->lp s S p=lp s S' p
 | 0,S,S',p,h,hp=>h p hp
 |s+1,S,S',p,h,hp=>by
  rw[p2]at hp h;unfold lp;split
  ·exact jg s (λt ht=>by rw[h t (by omega),h (t+2 ^ s) (by omega)]) (by omega)
  ·exact jg s (λt ht=>by rw[h t (by omega),h (t+2 ^ s) (by omega)]) (by omega)
theorem ZX:∀(s:Nat) (B:List Bool),B.length=2 ^ s->Qb s B=(List.range (2 ^ s)).map (lp s λt=>B.getD t false)
 | 0,B,h=>by
  match B,h with
  | [b],_=>rfl
 |s+1,B,h=>by
  have g:∀(f:Nat->Bool) (t:Nat),t<2 ^ s->((List.range (2 ^ s)).map f).getD t false=f t:=λf t ht=>by simp[List.getD_eq_getElem?_getD,ht]
  rw[Qb,ZX s _ (by simp),ZX s _ (by simp),p2,V3,wT,wa];congr 1
  ·refine wg λp hp=>?_;rw[wF]at hp;rw[lp,if_pos hp];exact jg s (λt ht=>g _ t ht) hp
  ·refine wg λp hp=>?_;rw[wF]at hp;show _=lp (s+1) _ (2 ^ s+p);rw[lp,if_neg (by omega),show 2 ^ s+p-2 ^ s=p by omega];exact jg s (λt ht=>g _ t ht) hp
theorem qFC{k:Nat}(hk:2<=k){M:Mem}{n m:Nat}(g:Good M n)(hm:m<=1000):∃q fr M',Pk (glT gs) Fs Cs k 32 [.cell n,N m] M=.ok ((NL (rf m q),fr),M')/\Kept n M M':=by
 obtain⟨w,M1,e1,hw,k1⟩:=O9 (k:=k-1) (by omega) g (m:=6) (by decide);rw[qJ t32 ⟨rfl,by decide⟩ (by omega),b32,show Cs.getD 32 []=[] from rfl];have hs:w=0\/w=1\/(2<=w/\w<=5):=by omega
 rcases hs with rfl|rfl|⟨h2,h5⟩
 ·refine⟨λ_=>false,true,M1,?_,k1⟩;simp[e1,lim,NL];rw[qA k1.len,show rf m (λ_=>false)=[] by simp[rf]];rfl
 ·refine⟨λ_=>true,true,M1,?_,k1⟩;simp(disch:=omega) [e1,y6];rw[qA k1.len,rf,qd];rfl
 ·have n0:¬ (w=0):=by omega
  have n1:¬ (w=1):=by omega
  obtain⟨bd,hb,hb0⟩:∃bd:Nat,[N 2,N 3,N 4,N 8][w-2]?=some (N bd)/\(0<bd/\bd<=1000000):=by
   have:w=2\/w=3\/w=4\/w=5:=by omega
   rcases this with rfl|rfl|rfl|rfl
   ·exact⟨2,rfl,by decide⟩
   ·exact⟨3,rfl,by decide⟩
   ·exact⟨4,rfl,by decide⟩
   ·exact⟨8,rfl,by decide⟩
  have sb:∀{M:Mem},qk M .sub (N w) (N 2)=some (N (w-2),true):=λ{M}=>i6 h2;obtain⟨q,M2,e2,i2,_⟩:=A8 (I:=Kept n M1) (R:=λ_ _=>True) (σ:=[some (N bd),some (.cell n)])
   (c:=pec (glT gs) (Pk (glT gs) Fs Cs (k-1)) (.cons (.cmp .eq (.call 31 (.cons (.var 2) (.cons (.var 1) .nil))) (nE 0)) .nil)) (e:=pe (glT gs) (Pk (glT gs) Fs Cs (k-1)) (.var 0))
   (List.range m) [] true none M1 List.nodup_range (by simp[lim];omega) ⟨k1.good,rfl,λ_ _=>rfl⟩ (λx _ M' hI=>by
    obtain⟨d,M3,e3,h3,k3⟩:=O9 (k:=k-1) (by omega) hI.good hb0;exact⟨decide (d=0),M3,by simp[e3],hI.trans k3,trivial⟩) (λx _ M' _=>by simp)
  refine⟨q,true,M2,?_,k1.trans i2⟩;simp at e2;simp(disch:=omega) [e1,n0,n1,sb,hb,lim,zu,zP,-ql,e2];rw[qA (k1.trans i2).len]
noncomputable def W(L:List Nat)(t:Nat):Nat:=(((List.range L.length).filter λp=>decide (p&&& t=t)).map λp=>L.getD p 0).sum % 2
section
variable{k:Nat}
theorem qEy{M:Mem}{t:T}{L:List Nat}(h:∀Y,IsL (M++Y) t L)(hl:L.length<=1000){P:Nat->List T->Mem->PR (TB×Mem)}:∀(m i:Nat) (ys:List Nat) (o:Option T),ys.length+m<=2000->∃σ',zf [] (.name 2) (pxs (glT gs) P [1] Z4) ((List.range' i m).map N) [some t,some (.cell M.length),o] (M++[ys.map N])=.ok (.nx [some t,some (.cell M.length),σ'],M++[(ys++(List.range' i m).map (W L)).map N])
 | 0,i,ys,o,hy=>⟨o,by simp⟩
 |m+1,i,ys,o,hy=>by
  obtain⟨σ',e⟩:=qEy h hl (P:=P) m (i+1) (ys++[W L i]) (some (N i)) (by simp;omega);refine⟨σ',?_⟩;have hI:=h [ys.map N];have c:=jR (c:=pec (glT gs) P (.cons (.cmp .eq (.bin .band (.var 0) (.var 2)) (.var 2)) .nil)) (e:=pe (glT gs) P (.idx (.var 1) (.var 0))) (M:=M++[ys.map N]) (σ:=[some t,some (N i)]) (o:=none) (its:=List.range L.length) (λp=>decide (p&&& i=i)) (λp=>L.getD p 0) (by simp[lim];omega) (λx _=>by simp[Jw]) (λx hx _=>by
   have hx:=wF.mp hx;have:=hI.idx (i:=x) (x:=L.getD x 0) (by rw[List.getD_eq_getElem?_getD,wA hx];rfl);simp[this])
  have sm:=(IsL.nl (M++[ys.map N]) (((List.range L.length).filter λp=>decide (p&&& i=i)).map λp=>L.getD p 0)).sum;have hw:(((List.range L.length).filter λp=>decide (p&&& i=i)).map λp=>L.getD p 0).sum % 2=W L i:=rfl;generalize (((List.range L.length).filter λp=>decide (p&&& i=i)).map λp=>L.getD p 0)=vs at c sm hw;have md:∀{M:Mem}(x:Nat),qk M .mod (N x) (N 2)=some (N (x % 2),true):=λ{M} x=>jW (by decide);have g0:(M++[ys.map N])[M.length]?=some (ys.map N):=by simp
  have s0:(M++[ys.map N]).set M.length (ys.map N++[N (W L i)])=M++[(ys++[W L i]).map N]:=by
   rw[wp _ _ (Nat.le_refl _)];simp
  have ap:g4 (M++[ys.map N]) M.length (N (W L i))=some (M++[(ys++[W L i]).map N]):=by
   rw[V2 g0 (by simp[lim];omega),s0]
  rw[List.range'_succ,List.map_cons,zv,st2];have body:pxs (glT gs) P [1] Z4 [some t,some (.cell M.length),some (N i)] (M++[ys.map N])=.ok (.nx [some t,some (.cell M.length),some (N i)],M++[(ys++[W L i]).map N]):=by
   rw[Z4];simp(disch:=omega) [hI.len,zP,-ql,c,sm,md,hw,ap]
  rw[body,PR.bind_ok];dsimp only;rw[e];simp
theorem f34(hk:1<=k){M:Mem}(hM:FlatM M){t:T}{L:List Nat}(h:∀Y,IsL (M++Y) t L)(hl:L.length<=1000):Pk (glT gs) Fs Cs k 34 [t] M=.ok ((NL ((List.range L.length).map (W L)),true),M):=by
 rw[qJ t34 ⟨rfl,by decide⟩ hk,b34,show Cs.getD 34 []=[1] from rfl];obtain⟨σ',e⟩:=qEy h hl (P:=Pk (glT gs) Fs Cs (k-1)) L.length 0 [] none (by simp;omega);rw[<-vK,List.nil_append,List.map_nil]at e;have hI:=(h [[]]).len;have th:thaw M.length (.lst [])=(.cell M.length,[[]]):=by simp[thaw,jb]
 simp(disch:=omega) [lim,th,hI,zP,e];have:=W0 hM ((List.range L.length).map (W L)) false;rw[wa]at this;exact this
end
noncomputable def W6(n:Nat)(c:Nat->Bool)(f:Nat->Nat):Nat:=(((List.range n).filter c).map f).sum
theorem D6(n:Nat)(c:Nat->Bool)(f:Nat->Nat):W6 (n+n) c f=W6 n c f+W6 n (λp=>c (n+p)) (λp=>f (n+p)):=by
 unfold W6;rw[List.range_add,List.filter_append,List.filter_map,wT,wa,List.sum_append];rfl
theorem jv{n:Nat}{c c':Nat->Bool}{f f':Nat->Nat}(hc:∀p,p<n->c p=c' p)(hf:∀p,p<n->f p=f' p):W6 n c f=W6 n c' f':=by
 unfold W6;rw[vF (q:=c') λp hp=>hc p (wF.mp hp)];congr 1;exact wg λp hp=>hf p (wF.mp (List.mem_filter.mp hp).1)
theorem S6{n:Nat}{c:Nat->Bool}{f:Nat->Nat}(hc:∀p,p<n->c p=false):W6 n c f=0:=by
 unfold W6;rw[wl.mpr λp hp=>by rw[hc p (wF.mp hp)];decide];rfl
theorem M8(L:List Nat)(t:Nat):W L t=W6 L.length (λp=>decide (p&&& t=t)) (λp=>L.getD p 0) % 2:=rfl
theorem qF5:∀s,s<5->∀p,p<2 ^ s->∀t,t<2 ^ s->(2 ^ s+p)&&& t=p&&& t:=by decide +kernel
theorem qFB:∀s,s<5->∀p,p<2 ^ s->∀t,t<2 ^ s->(2 ^ s+p)&&& (2 ^ s+t)=2 ^ s+(p&&& t):=by decide +kernel
theorem P5{L:List Nat}{n p:Nat}(h:p<n):L.getD p 0=(L.take n).getD p 0:=by
 rw[List.getD_eq_getElem?_getD,List.getD_eq_getElem?_getD,wM h]
theorem JT{L:List Nat}{n p:Nat}:L.getD (n+p) 0=(L.drop n).getD p 0:=by
 rw[List.getD_eq_getElem?_getD,List.getD_eq_getElem?_getD,wu]
theorem y7:∀(s:Nat) (L:List Nat),s<=5->L.length=2 ^ s->(∀x∈L,x<2)->wrd s L=(List.range (2 ^ s)).map (W L)
 | 0,L,hs,hl,hb=>by
  match L,hl with
  | [x],_=>
   have hx:x<2:=hb x (List.mem_cons_self ..);have:W [x] 0=x:=by
    show (([x].map λp=>p).sum % 2)=x;simp;omega
   show [x]=[W [x] 0];rw[this]
 |s+1,L,hs,hl,hb=>by
  have hl':L.length=2 ^ s+2 ^ s:=by rw[hl,wU];omega
  have la:(L.take (2 ^ s)).length=2 ^ s:=by rw[wO];omega
  have lb:(L.drop (2 ^ s)).length=2 ^ s:=by rw[wY];omega
  have ia:=y7 s (L.take (2 ^ s)) (by omega) la λx hx=>hb x (List.mem_of_mem_take hx);have ib:=y7 s (L.drop (2 ^ s)) (by omega) lb λx hx=>hb x (vL hx);show List.zipWith xr (wrd s (L.take (2 ^ s))) (wrd s (L.drop (2 ^ s)))++wrd s (L.drop (2 ^ s))=_;rw[ia,ib,show (2:Nat) ^ (s+1)=2 ^ s+2 ^ s by rw[wU];omega,List.range_add,wT,wa];have w1:∀t,t<2 ^ s->W L t=xr (W (L.take (2 ^ s)) t) (W (L.drop (2 ^ s)) t):=λt ht=>by
   rw[M8,M8,M8,hl',la,lb,D6];unfold xr;rw[<-Nat.add_mod];congr 2
   ·exact jv (λp _=>rfl) λp hp=>P5 hp
   ·exact jv (λp hp=>by rw[qF5 s (by omega) p hp t ht]) λp _=>JT
  have w2:∀t,t<2 ^ s->W L (2 ^ s+t)=W (L.drop (2 ^ s)) t:=λt ht=>by
   rw[M8,M8,hl',lb,D6,S6 (λp hp=>vW λe=>by
    have:=Nat.and_le_left (n:=p) (m:=2 ^ s+t);omega),Nat.zero_add]
   congr 1;exact jv (λp hp=>by
    rw[qFB s (by omega) p hp t ht];congr 1;rw[eq_iff_iff];omega) λp _=>JT
  congr 1
  ·rw[List.zipWith_map_left,List.zipWith_map_right,List.zipWith_self];exact wg λt ht=>(w1 t (wF.mp ht)).symm
  ·exact wg λt ht=>(w2 t (wF.mp ht)).symm
theorem qFz{s:Nat}(hs:s<=5):[N 1,N 2,N 4,N 8,N 16,N 32][s]?=some (N (2 ^ s)):=by
 have:s=0\/s=1\/s=2\/s=3\/s=4\/s=5:=by omega
 rcases this with rfl|rfl|rfl|rfl|rfl|rfl<;>rfl
theorem S2{M:Mem}{t:T}{L:List Nat}(h:IsL M t L)(n:Nat):qo M .notin (N n) t=some (!decide (n∈L)):=by
 have a:qo M .notin (N n) t=qo M .notin (N n) (NL L):=by
  have d1:t.dct=none:=by
   cases t with
   |ob o=>have:=h.its;cases this
   |_=>rfl
  show (inT M (N n) t).map _=(inT M (N n) (NL L)).map _;unfold inT;rw[d1,show (NL L).dct=none from rfl,h.its];rfl
 rw[a,JC]
theorem l5{M:Mem}{t:T}{L:List Nat}(h:IsL M t L)(n:Nat):qo M .inn (N n) t=some (decide (n∈L)):=by
 have:=S2 h n;have e:qo M .notin (N n) t=(qo M .inn (N n) t).map (!·):=rfl;rw[e]at this;cases hh:qo M .inn (N n) t with
 |none=>rw[hh]at this;cases this
 |some b=>
  rw[hh]at this;simp at this;rw[this]
theorem Kept.flat{n:Nat}{M M':Mem}(x:Kept n M M')(h:FlatM M):FlatM M':=by
 obtain⟨a,b,c0,e,_⟩:=x.good;intro c hc;obtain⟨j,hj,rfl⟩:=wt.mp hc;by_cases q:j=n
 ·subst q;rw[wA hj]at e;rw[Option.some.inj e];show T.unds 0 [N a,N b,.v (.bl c0)]=true;simp[T.unds,w9,T.und]
 ·have:=x.oth j q;rw[wA hj,wA (by have:=x.len;omega)]at this;rw[Option.some.inj this];exact h _ (vH _)
theorem Good.app{A B:Mem}{n:Nat}(g:Good A n):Good (A++B) n:=by
 obtain⟨a,b,c,e,h⟩:=g;exact⟨a,b,c,by rw[List.getElem?_append_left (List.getElem?_eq_some_iff.mp e).1];exact e,h⟩
theorem Good.lt{A:Mem}{n:Nat}(g:Good A n):n<A.length:=by
 obtain⟨a,b,c,e,_⟩:=g;exact(List.getElem?_eq_some_iff.mp e).1
theorem Kept.split{A B X:Mem}{n:Nat}(hn:n<A.length)(x:Kept n (A++B) X):∃A',X=A'++B/\Kept n A A':=by
 have lx:X.length=A.length+B.length:=by rw[x.len];simp
 have hd:X.drop A.length=B:=by
  refine List.ext_getElem? λi=>?_;rw[wu,x.oth _ (by omega),List.getElem?_append_right (by omega),wI]
 refine⟨X.take A.length,by rw[<-hd,List.take_append_drop],?_,by rw[wO];omega,λj hj=>?_⟩
 ·obtain⟨a,b,c,e,h⟩:=x.good;exact⟨a,b,c,by rw[wM hn];exact e,h⟩
 ·by_cases q:j<A.length
  ·rw[wM q,x.oth j hj,List.getElem?_append_left q]
  ·rw[wx (by simp;omega),wx (by omega)]
noncomputable abbrev I(x:Int):T:=.v (.int x)
def Bd(i:Int):Prop:=i.natAbs<2 ^ 300
theorem Bd.log{i:Int}(h:Bd i):i.natAbs.log2<1920:=by
 rcases Nat.eq_zero_or_pos i.natAbs with z|z
 ·rw[z];decide
 ·have:=(Nat.log2_lt (by omega)).mpr h;omega
theorem Bd.len{i:Int}(h:Bd i):(Str.ofString (toString i)).length<=1921:=by
 rw[ofString_length];exact int_text_length_le (by decide) h.log
def Fit(d:PyData)(n:Nat):Prop:=d.showable=true/\d.shown.length<=n
theorem w5{i:Int}(h:Bd i):Fit (.int i) 1921:=⟨vX h.log,h.len⟩
theorem Z5(ts:List Str):(tupleText ts).length<=piled ts+3:=by
 unfold tupleText;rw[Str.length_append,Str.length_append];have e1:(("(":String):Str).length=1:=rfl;have e2:((if ts.length==1 then ",)" else ")":String):Str).length<=2:=by split<;>decide
 cases ts with
 |nil=>
  have:(Str.join ", " []).length=0:=rfl;omega
 |cons t r=>
  have:=join_length_add (t::r) (by simp);omega
theorem P0:∀(ts:List Str) (k:Nat) (acc:Str),(textFrom k acc ts).length<=acc.length+piled ts
 | [],k,acc=>by show acc.length<=_;rw[piled_nil];omega
 |t::r,k,acc=>by
  have:=P0 r (k+1) (acc++(if k>0 then ", " else "":String)++t);show (textFrom (k+1) (acc++(if k>0 then ", " else "":String)++t) r).length<=_;rw[Str.length_append,Str.length_append]at this;rw[piled_cons];have e:((if k>0 then ", " else "":String):Str).length<=2:=by split<;>decide
  omega
theorem JE:∀{ds:List PyData}{n:Nat},(∀d∈ds,Fit d n)->PyData.showableAll ds=true/\piled (PyData.shownAll ds)<=ds.length*(n+2)
 | [],n,h=>⟨rfl,Nat.zero_le _⟩
 |d::r,n,h=>by
  obtain⟨a,b⟩:=JE (ds:=r) λx hx=>h x (by simp[hx]);obtain⟨c,e⟩:=h d (by simp);refine⟨by show (d.showable&&PyData.showableAll r)=true;rw[c,a];rfl,?_⟩;show piled (d.shown::PyData.shownAll r)<=_;rw[piled_cons,List.length_cons,Nat.succ_mul];omega
theorem qAa{ds:List PyData}{n m:Nat}(h:∀d∈ds,Fit d n)(hm:ds.length*(n+2)+3<=m):Fit (.tuple ds) m:=by
 obtain⟨a,b⟩:=JE h;refine⟨a,?_⟩;show (tupleText (PyData.shownAll ds)).length<=_;have c:=Z5 (PyData.shownAll ds);omega
theorem z8{ds:List PyData}{n m:Nat}(h:∀d∈ds,Fit d n)(hm:ds.length*(n+2)+3<=m):Fit (.list ds) m:=by
 obtain⟨a,b⟩:=JE h;refine⟨a,?_⟩;show (listText (PyData.shownAll ds)).length<=_;unfold listText;rw[Str.length_append];have c:=P0 (PyData.shownAll ds) 0 "[";have e1:(("[":String):Str).length=1:=rfl;have e2:(("]":String):Str).length=1:=rfl;omega
def Shw(t:T):Prop:=∃x:Str,∀M:Mem,zi M .repr [t]=some (.v (.str x),true)
theorem qCN{t:T}{d:PyData}{n:Nat}(h:∀M:Mem,X6 M t=some d)(f:Fit d n)(hn:n<=1000000):Shw t:=by
 refine⟨d.shown,λM=>?_⟩;show ((X6 M t).bind Qz).map _=_;rw[h M,Option.bind_some];unfold Qz;rw[if_pos ⟨f.1,Nat.le_trans f.2 (by rw[sizeLine_eq];omega)⟩];rfl
theorem Fit.mono{d:PyData}{n m:Nat}(h:Fit d n)(l:n<=m):Fit d m:=⟨h.1,Nat.le_trans h.2 l⟩
def Dn(n m:Nat)(t:T):Prop:=∃d,(∀M:Mem,Jq M n t=some d)/\Fit d m
theorem Dn.mono{n m m':Nat}{t:T}(h:Dn n m t)(l:m<=m'):Dn n m' t:=by
 obtain⟨d,e,f⟩:=h;exact⟨d,e,f.mono l⟩
theorem h8(M:Mem)(n:Nat)(x:V):Jq M n (.v x)=j0 x:=by cases n<;>rfl
theorem qBG(n:Nat){i:Int}(h:Bd i):Dn n 1921 (I i):=⟨_,λM=>by rw[h8];rfl,w5 h⟩
theorem qF2(n:Nat){i:Nat}(h:i<=1000000000000):Dn n 1921 (N i):=qBG n (i:=(i:Int)) (by unfold Bd;rw[Int.natAbs_natCast];exact Nat.lt_of_le_of_lt h (by decide +kernel))
theorem N1{n m:Nat}:∀{ts:List T},(∀t∈ts,Dn n m t)->∃ds,(∀M:Mem,zO (Jq M n) ts=some ds)/\ds.length=ts.length/\∀d∈ds,Fit d m
 | [],_=>⟨[],λ_=>rfl,rfl,λd h=>by simp at h⟩
 |t::ts,h=>by
  obtain⟨ds,e,l,k⟩:=N1 (ts:=ts) λx hx=>h x (by simp[hx]);obtain⟨d,e1,k1⟩:=h t (by simp);refine⟨d::ds,λM=>?_,by simp[l],λx hx=>?_⟩
  ·rw[zO,e1,Option.bind_some,e];rfl
  ·rcases List.mem_cons.mp hx with rfl|hx
   ·exact k1
   ·exact k x hx
theorem qBW{n m c:Nat}{ts:List T}(h:∀t∈ts,Dn n m t)(hc:ts.length<=c):Dn (n+1) (c*(m+2)+3) (.lst ts):=by
 obtain⟨ds,e,l,k⟩:=N1 h;refine⟨.list ds,λM=>?_,z8 k (by rw[l];exact Nat.add_le_add_right (Nat.mul_le_mul_right _ hc) _)⟩;show (zO (Jq M n) ts).map _=_;rw[e];rfl
theorem qBE{n m c:Nat}{ts:List T}(h:∀t∈ts,Dn n m t)(hc:ts.length<=c):Dn (n+1) (c*(m+2)+3) (.tup ts):=by
 obtain⟨ds,e,l,k⟩:=N1 h;refine⟨.tuple ds,λM=>?_,qAa k (by rw[l];exact Nat.add_le_add_right (Nat.mul_le_mul_right _ hc) _)⟩;show (zO (Jq M n) ts).map _=_;rw[e];rfl
theorem qCF{M:Mem}{a b:Nat}{x:PySem.Str}{P U:List Nat}(h1:M[a]?=some (P.map N))(h2:M[b]?=some (U.map N)):zi M .repr [.tup [Ts x,.cell a,.cell b]]=zi M .repr [.tup [Ts x,NL P,NL U]]:=by
 have e1:jX M (.cell a)=jX M (NL P):=by
  show (M[a]?).bind _=_;rw[h1];rfl
 have e2:jX M (.cell b)=jX M (NL U):=by
  show (M[b]?).bind _=_;rw[h2];rfl
 have e:zO (jX M) [Ts x,.cell a,.cell b]=zO (jX M) [Ts x,NL P,NL U]:=by
  simp only[zO];rw[e1,e2]
 show (((zO (jX M) [Ts x,.cell a,.cell b]).map _).bind Qz).map _=(((zO (jX M) [Ts x,NL P,NL U]).map _).bind Qz).map _;rw[e]
theorem qDW{M:Mem}(b:Bool):zi M .int [.v (.bl b)]=some (N b.toNat,true):=by cases b<;>rfl
theorem Zv:∀(n lo:Nat) (L:List Nat),Ris lo (lo+n) L->((List.range' lo n).filter λx=>decide (x∈L))=L
 | 0,lo,[],_=>rfl
 | 0,lo,x::r,h=>by have:=h.1;have:=h.2.1;omega
 |n+1,lo,L,h=>by
  rw[List.range'_succ,List.filter_cons];by_cases q:lo∈L
  ·cases L with
   |nil=>cases q
   |cons x r=>
    obtain⟨h1,h2,h3⟩:=h;have e:x=lo:=by
     rcases List.mem_cons.mp q with q|q
     ·exact q.symm
     ·have:=(GF.Ris.mem h3 lo q).1;omega
    subst e;rw[if_pos (by simp),vF (q:=λy=>decide (y∈r)) (λy hy=>by
     have:=(List.mem_range'_1.mp hy).1;have ne:y≠x:=by omega
     simp[ne]),Zv n (x+1) r (by rwa [show x+1+n=x+(n+1) by omega])]
  ·rw[if_neg (by simpa using q)];refine Zv n (lo+1) L ?_;cases L with
   |nil=>trivial
   |cons x r=>
    obtain⟨h1,h2,h3⟩:=h;have:x≠lo:=λz=>q (by rw[z];simp);exact⟨by omega,by omega,by rwa [show lo+1+n=lo+(n+1) by omega]⟩
theorem eq0{M:Mem}:qo M .eq (NL []) (.lst [])=some true:=by rw[show T.lst []=NL [] from rfl,(IsL.nl M []).ceq (IsL.nl M [])];simp
theorem ne0{M:Mem}:qo M .ne (NL []) (.lst [])=some false:=by rw[show T.lst []=NL [] from rfl,(IsL.nl M []).cne (IsL.nl M [])];simp
section
variable{k:Nat}
theorem j6(hk:1<=k){M:Mem}{t:T}{L:List Nat}{n:Nat}(h:IsL M t L)(r:Ris 0 n L)(hn:n<=100):Pk (glT gs) Fs Cs k 35 [t,N 0,N n] M=.ok (bT true,M):=by
 rw[qJ t35 ⟨rfl,by decide⟩ hk,b35,show Cs.getD 35 []=[] from rfl];obtain⟨d,s1,s1',s2⟩:=h.src;have l1:=zU r;have c1:=zA (d:=d) (c:=pec (glT gs) (Pk (glT gs) Fs Cs (k-1)) (.cons (.or (.not (.isi (.var 0) ["int"])) (.isi (.var 0) ["bool"])) .nil)) (e:=pe (glT gs) (Pk (glT gs) Fs Cs (k-1)) (.var 0)) (M:=M) (σ:=[]) (o:=none) (its:=L) (λ_=>false) (λx=>x) s2 (by simp[lim];omega) (λx _=>by simp[zY]) (λx _ h=>by cases h);rw[wl.mpr (by simp),List.map_nil]at c1;have rg:=V1 (a:=0) (b:=n) (by omega);rw[Nat.sub_zero]at rg;have c2:=jR (c:=pec (glT gs) (Pk (glT gs) Fs Cs (k-1)) (.cons (.cmp .inn (.var 0) (.var 1)) .nil)) (e:=pe (glT gs) (Pk (glT gs) Fs Cs (k-1)) (.var 0)) (M:=M) (σ:=[some t]) (o:=none) (its:=List.range' 0 n) (λx=>decide (x∈L)) (λx=>x) (by simp[lim];omega) (λx _=>by simp[l5 h]) (λx _ _=>by simp);rw[Zv n 0 L (by simpa using r),List.map_id']at c2;have q1:=h.ceq (IsL.nl M L);rw[vX rfl]at q1;simp[zY,h.ty,s1,s1',c1,-ql,ne0,rg,c2,q1,qA]
theorem qCO{P:Nat->List T->Mem->PR (TB×Mem)}{M:Mem}{t u:T}{sp pl:List Nat}{n p0:Nat}(i1:IsL M t sp)(i2:IsL M u pl)(l1:sp.length<=1000):∀(ms:List Nat) (o4 o5:Option T),(∀p∈ms,(qg sp (λt=>rch p t) ^^ decide (p∈pl))=decide (p=p0))->∃p4 p5,zf [] (.name 4) (pxs (glT gs) P [] X3) (ms.map N) [some (N n),some t,some u,some (N p0),o4,o5] M=.ok (.nx [some (N n),some t,some u,some (N p0),p4,p5],M)
 | [],o4,o5,_=>⟨o4,o5,rfl⟩
 |p::ms,o4,o5,h=>by
  obtain⟨d,s1,s1',s2⟩:=i1.src;have hp:=h p (by simp);have c1:=zA (d:=d) (c:=pec (glT gs) P (.cons (.cmp .eq (.bin .band (.var 1) (.var 0)) (.var 0)) .nil)) (e:=pe (glT gs) P (.var 0)) (M:=M) (σ:=[some (N p)]) (o:=none) (its:=sp) (λx=>rch p x) (λx=>x) s2 (by simp[lim];omega) (λx _=>by simp[Jw,rch]) (λx _ _=>by simp);rw[List.map_id']at c1;have ll:((sp.filter λx=>rch p x).length+(decide (p∈pl)).toNat) % 2=(decide (p=p0)).toNat:=by
   have:=GF.lpar_len (λx=>rch p x) sp;rw[<-hp];generalize qg sp (λt=>rch p t)=a at *;cases a<;>cases decide (p∈pl)<;>simp at this ⊢<;>omega
  have lN:=(IsL.nl M (sp.filter λx=>rch p x)).len;generalize (sp.filter λx=>rch p x)=F at *;obtain⟨p4,p5,e⟩:=qCO i1 i2 l1 (n:=n) ms (some (N p)) (some (N (F.length+(decide (p∈pl)).toNat))) λq hq=>h q (by simp[hq]);refine⟨p4,p5,?_⟩;have md:∀{M:Mem}(x:Nat),qk M .mod (N x) (N 2)=some (N (x % 2),true):=λ{M} x=>jW (by decide);have iN:=l5 i2 p;have body:pxs (glT gs) P [] X3 [some (N n),some t,some u,some (N p0),some (N p),o5] M=.ok (.nx [some (N n),some t,some u,some (N p0),some (N p),some (N (F.length+(decide (p∈pl)).toNat))],M):=by
   clear e h;generalize decide (p∈pl)=b at *;rw[X3];simp[s1,s1',c1,-ql,lN,iN,qDW,md,ll]
  rw[List.map_cons,zv,show ∀a b c d e f z:Option T,[a,b,c,d,e,f].set 4 z=[a,b,c,d,z,f] from λ_ _ _ _ _ _ _=>rfl,body,PR.bind_ok];exact e
theorem a9(hk:1<=k){M:Mem}{t u:T}{sp pl:List Nat}{s P:Nat}(hs:s<=5){S:Nat->Bool}(i1:IsL M t sp)(i2:IsL M u pl)(td:Told s S P sp pl):Pk (glT gs) Fs Cs k 36 [N (2 ^ s),t,u,N P] M=.ok (bT true,M):=by
 rw[qJ t36 ⟨rfl,by decide⟩ hk,b36,show Cs.getD 36 []=[] from rfl];have n5:=p5 hs;have l1:=zU td.r1;obtain⟨p4,p5,e⟩:=qCO (P:=Pk (glT gs) Fs Cs (k-1)) i1 i2 (by omega) (n:=2 ^ s) (p0:=P) (List.range (2 ^ s)) none none λp hp=>by
  rw[<-td.r2.once];exact td.sum p (wF.mp hp)
 have rg:=zP (n:=2 ^ s) (by omega);simp[rg,e,qA]
theorem qCw(hk:3<=k){s P:Nat}(hs:s<=5)(hP:P<2 ^ s){M:Mem}{t u:T}{sp pl:List Nat}{S:Nat->Bool}(i1:IsL M t sp)(i2:IsL M u pl)(td:Told s S P sp pl):Pk (glT gs) Fs Cs k 37 [N (2 ^ s),NL (rf (2 ^ s) S),N P,.v (.bl false),.tup [Ts "told",t,u]] M=.ok (bT true,M):=by
 rw[qJ t37 ⟨rfl,by decide⟩ (by omega),b37,show Cs.getD 37 []=[] from rfl];have n5:=p5 hs;have l1:=zU td.r1;obtain⟨d,s1,s1',s2⟩:=i1.src;have ty:∀{M:Mem}(ts:List T),zN M (.tup ts)=some "tuple":=λ{M} ts=>rfl;have lfT:∀x,T.lf (Ts x)=true:=λx=>rfl;have st:∀{M:Mem}{σ:TS}(x:Str),pe (glT gs) (Pk (glT gs) Fs Cs (k-1)) (.cst (V.str x)) σ M=.ok ((Ts x,true),M):=λ{M σ} x=>rfl;have ne:∀{M:Mem},qo M .ne (Ts "told") (Ts "told")=some false:=λ{M}=>by
  show (some (!_):Option Bool)=_;rfl
 have q1:=j6 (k:=k-1) (by omega) i1 td.r1 (by omega);have q2:=j6 (k:=k-1) (by omega) i2 td.r2 (by omega);have q3:=a9 (k:=k-1) (by omega) hs i1 i2 td;have c1:=zA (d:=d) (c:=pec (glT gs) (Pk (glT gs) Fs Cs (k-1)) (.cons (.cmp .inn (.var 0) (.var 1)) .nil)) (e:=pe (glT gs) (Pk (glT gs) Fs Cs (k-1)) (.var 0)) (M:=M) (σ:=[some (NL (rf (2 ^ s) S))]) (o:=none) (its:=sp) (λ_=>false) (λx=>x) s2 (by simp[lim];omega) (λx hx=>by
  have:=W7 (M:=M) x (rf (2 ^ s) S);rw[zg (GF.Ris.mem td.r1 x hx).2,td.off x hx]at this;generalize rf (2 ^ s) S=lo at *;simp[this]) (λx _ h=>by cases h)
 rw[wl.mpr (by simp),List.map_nil]at c1;generalize rf (2 ^ s) S=lo at *;have it:∀{M:Mem},zi M .int [.v (.bl false)]=some (N 0,true):=λ{M}=>rfl;simp[ty,lfT,zY,st,-pe_str,ne,q1,q2,q3,s1,s1',c1,-ql,eq0,lim,qA,it]
theorem qFu{P:Nat}{L:List Nat}(hP:P<L.length)(hb:∀x∈L,x<2)(h1:∀q,q<P->cB L q=false)(h2:cB L P=true):L.take (P+1)=List.replicate P 0++[1]:=by
 refine List.ext_getElem (by simp;omega) λi a b=>?_;rw[List.getElem_take];have hi:i<L.length:=by rw[wO]at a;omega
 have ge:L.getD i 0=L[i]:=by rw[List.getD_eq_getElem?_getD,wA hi];rfl
 by_cases q:i<P
 ·have z:=h1 i q;unfold cB at z;rw[ge]at z;have:=hb _ (vH hi);have:=of_decide_eq_false z;rw[List.getElem_append_left (by simpa using q),List.getElem_replicate];omega
 ·have e:i=P:=by rw[wO]at a;omega
  subst e;unfold cB at h2;rw[ge]at h2;rw[vZ h2,List.getElem_append_right (by simp)];simp
theorem qFN{M:Mem}{n:Nat}(h:n<=100):qk M .mul (.lst [N 0]) (N n)=some (NL (List.replicate n 0),true):=by
 show (if 0<=((n:Nat):Int)/\[N 0].length*((n:Nat):Int).toNat<=lim/\((n:Nat):Int)<1000000 then some (lT (List.replicate ((n:Nat):Int).toNat [N 0]).flatten) else none)=_;rw[wy,if_pos ⟨by omega,Nat.le_trans (show 1*n<=100 by omega) (by decide),by omega⟩,List.flatten_replicate_singleton,show List.replicate n (N 0)=(List.replicate n 0).map N by rw[List.map_replicate]];unfold lT;rw[QF];rfl
theorem qDh(hk:3<=k){s P:Nat}(hs:s<=5)(hP:P<2 ^ s){M:Mem}(hM:FlatM M){t:T}{L:List Nat}{S:Nat->Bool}(h:∀Y,IsL (M++Y) t L)(hl:L.length=2 ^ s)(hb:∀x∈L,x<2)(o:Open s S P (cB L)):Pk (glT gs) Fs Cs k 37 [N (2 ^ s),NL (rf (2 ^ s) S),N P,.v (.bl true),.tup [Ts "open",t]] M=.ok (bT true,M):=by
 rw[qJ t37 ⟨rfl,by decide⟩ (by omega),b37,show Cs.getD 37 []=[] from rfl];have n5:=p5 hs;have i1:IsL M t L:=by have:=h [];rwa [List.append_nil]at this
 obtain⟨d,s1,s1',s2⟩:=i1.src;have ty:∀{M:Mem}(ts:List T),zN M (.tup ts)=some "tuple":=λ{M} ts=>rfl;have lfT:∀x,T.lf (Ts x)=true:=λx=>rfl;have st:∀{M:Mem}{σ:TS}(x:Str),pe (glT gs) (Pk (glT gs) Fs Cs (k-1)) (.cst (V.str x)) σ M=.ok ((Ts x,true),M):=λ{M σ} x=>rfl;have ne:∀{M:Mem},qo M .ne (Ts "open") (Ts "open")=some false:=λ{M}=>rfl;have it:∀{M:Mem},zi M .int [.v (.bl true)]=some (N 1,true):=λ{M}=>rfl;have w:=f34 (k:=k-1) (by omega) hM h (by omega);rw[hl,<-y7 s L hs hl hb]at w;have lw:=zL s L hl;have c1:=zA (d:=d) (c:=pec (glT gs) (Pk (glT gs) Fs Cs (k-1)) (.cons (.or (.isi (.var 0) ["bool"]) (.cmp .notin (.var 0) (.tup (.cons (nE 0) (.cons (nE 1) .nil))))) .nil)) (e:=pe (glT gs) (Pk (glT gs) Fs Cs (k-1)) (.var 0)) (M:=M) (σ:=[]) (o:=none) (its:=L) (λ_=>false) (λx=>x) s2 (by simp[lim];omega) (λx hx=>by
  have h2:=hb x hx;have:qo M .notin (N x) (.tup [N 0,N 1])=some false:=by
   have:x=0\/x=1:=by omega
   rcases this with rfl|rfl<;>rfl
  simp[zY,this,lim]) (λx _ h=>by cases h)
 rw[wl.mpr (by simp),List.map_nil]at c1;have ln:=i1.len;rw[hl]at ln;have cut:∀xs lo hi,Z7 t xs lo hi=some (lT (QB xs lo hi)):=λxs lo hi=>slm i1 xs lo hi;have tk:=qFu (P:=P) (by omega) hb o.c1 o.c2;have y1:lT (QB (L.map N) none (some ((P+1:Nat):Int)))=(NL (List.replicate P 0++[1]),true):=by
  rw[Qq (by simp;omega),<-List.map_take,tk,qF8]
 rw[show (((P+1:Nat):Int))=(P:Int)+1 from rfl]at y1;have y2:T.lst (QB (L.map N) none (some ((P:Int)+1)))=NL (List.replicate P 0++[1]):=by
  have:=congrArg Prod.fst y1;exact this
 have m0:=qFN (M:=M) (n:=P) (by omega);have ad:∀{M:Mem},qk M .add (NL (List.replicate P 0)) (.lst [N 1])=some (NL (List.replicate P 0++[1]),true):=λ{M}=>R9 (K:=[1]) (by simp[lim];omega);have ne2:∀{M:Mem},qo M .ne (NL (List.replicate P 0++[1])) (NL (List.replicate P 0++[1]))=some false:=λ{M}=>by rw[(IsL.nl M _).cne (IsL.nl M _)];simp
 have rg:=zP (n:=2 ^ s) (by omega);have c2:=jR (c:=pec (glT gs) (Pk (glT gs) Fs Cs (k-1)) (.cons (.and (.cmp .eq (.idx (.var 2) (.var 0)) (nE 1)) (.cmp .notin (.var 0) (.var 1))) .nil)) (e:=pe (glT gs) (Pk (glT gs) Fs Cs (k-1)) (.var 0)) (M:=M) (σ:=[some (NL (rf (2 ^ s) S)),some (NL (wrd s L))]) (o:=none) (its:=List.range (2 ^ s)) (λ_=>false) (λx=>x) (by simp[lim];omega) (λx hx=>by
  have hx:=wF.mp hx;have i2:=(IsL.nl M (wrd s L)).idx (i:=x) (x:=(wrd s L).getD x 0) (getD_some (by omega));have nn:=JC (M:=M) x (rf (2 ^ s) S);rw[zg hx]at nn;rw[Qs hs hl hb hx]at i2;have c3:=o.c3 x hx;generalize rf (2 ^ s) S=lo at *;cases q:S x with
  |true=>
   rw[q]at nn;cases wd s (cB L) x<;>simp[i2,nn]
  |false=>
   rw[c3 q]at i2;simp[i2]) (λx _ h=>by cases h)
 rw[wl.mpr (by simp),List.map_nil]at c2;have its:=i1.its;have tyt:=i1.ty;generalize rf (2 ^ s) S=lo at *;generalize L.map N=LN at *;generalize List.replicate P 0++[1]=RP at *;generalize NL (List.replicate P 0)=R0 at *;simp[ty,tyt,lfT,zY,st,-pe_str,ne,it,s1,s1',c1,-ql,ne0,eq0,ln,its,cut,y2,m0,ad,ne2,w,rg,c2,lim,qA]
end
end My
namespace My
open PySem PySem.Spec PI
open L2 (V)
open GF (Ris lp rch qg Told Open wd par)
theorem qD3(n:Nat){x:PySem.Str}(h:(PyData.str x).showable=true/\(PyData.str x).shown.length<=1921):Dn n 1921 (Ts x):=⟨.str x,λM=>by show Jq M n (.v (.str x))=_;rw[h8];rfl,h⟩
theorem u5{L:List Nat}(hl:L.length<=32)(hv:∀x∈L,x<=100):Dn 4 70000 (NL L):=(qBW (n:=3) (m:=1921) (c:=32) (λt ht=>by
 obtain⟨x,hx,rfl⟩:=vR.mp ht;exact qF2 3 (i:=x) (by have:=hv x hx;omega)) (by simpa using hl)).mono (by decide)
theorem qDq{t:T}{m:Nat}(h:Dn 5 m t)(hm:m<=1000000):Shw t:=by
 obtain⟨d,e,f⟩:=h;exact qCN e f hm
theorem qBJ{ts:List T}(h:∀t∈ts,Dn 4 70000 t)(hl:ts.length<=5):Shw (.tup ts):=qDq (qBE (n:=4) (c:=5) h hl) (by decide)
theorem y3:Dn 4 70000 (Ts "told"):=(qD3 4 ⟨rfl,by decide +kernel⟩).mono (by decide)
theorem qAm:Dn 4 70000 (Ts "open"):=(qD3 4 ⟨rfl,by decide +kernel⟩).mono (by decide)
theorem qFh{p:T->Prop}{a b c:T}(h1:p a)(h2:p b)(h3:p c):∀t∈[a,b,c],p t:=λt ht=>by
 simp at ht;rcases ht with rfl|rfl|rfl<;>assumption
theorem qBC{M:Mem}{a:Nat}{x:PySem.Str}{P:List Nat}(h1:M[a]?=some (P.map N)):zi M .repr [.tup [Ts x,.cell a]]=zi M .repr [.tup [Ts x,NL P]]:=by
 have e1:jX M (.cell a)=jX M (NL P):=by
  show (M[a]?).bind _=_;rw[h1];rfl
 have e:zO (jX M) [Ts x,.cell a]=zO (jX M) [Ts x,NL P]:=by
  simp only[zO];rw[e1]
 show (((zO (jX M) [Ts x,.cell a]).map _).bind Qz).map _=(((zO (jX M) [Ts x,NL P]).map _).bind Qz).map _;rw[e]
theorem qBU{M:Mem}(h:FlatM M)(A:List Nat):FlatM (M++[A.map N]):=h.app λc hc=>by
 rw[wQ.mp hc];exact R8 _ _
theorem qDw{M:Mem}(h:FlatM M)(A B:List Nat):FlatM (M++[A.map N,B.map N]):=h.app λc hc=>by
 simp only[List.mem_cons,wZ,or_false]at hc;rcases hc with rfl|rfl<;>exact R8 _ _
theorem Jg{s:Nat}(hs:s<=5){hi:Nat}{L:List Nat}(h:Ris 0 hi L)(hh:hi<=2 ^ s):L.length<=32/\∀x∈L,x<=100:=by
 have n5:=p5 hs;have:=zU h;exact⟨by omega,λx hx=>by have:=(GF.Ris.mem h x hx).2;omega⟩
section
variable{k:Nat}
theorem step(hk:18<=k){s P:Nat}(h1:1<=s)(hs:s<=5)(hP:P<2 ^ s)(S:Nat->Bool){M:Mem}(hM:FlatM M){o0 o1 o2 o8 o9 o10:Option T}:∃p9 p10 C,pxs (glT gs) (Pk (glT gs) Fs Cs k) [2,9] T0 [o0,o1,o2,some (N s),some (N (2 ^ s)),some (NL (rf (2 ^ s) S)),some (.lst (((List.range (2 ^ s)).map (lp s S)).map Bl)),some (N P),o8,o9,o10] M=.ok (.nx [o0,o1,o2,some (N s),some (N (2 ^ s)),some (NL (rf (2 ^ s) S)),some (.lst (((List.range (2 ^ s)).map (lp s S)).map Bl)),some (N P),some (NL (rf (2 ^ s) S)),p9,p10],M++C)/\FlatM (M++C):=by
 have n5:=p5 hs;have hW:=hM.wf;obtain⟨t,pp,e⟩:=c9 (k:=k) (by omega) h1 hs hP S;have e1:=e M hW;have ix:∀{M:Mem},JF M (.lst (((List.range (2 ^ s)).map (lp s S)).map Bl)) (N P)=some (Bl (lp s S P),true):=λ{M}=>by
  rw[C5,wP,wP,List.getElem?_range hP];rfl
 have isn:∀{M:Mem},qo M .isnot (.v (.bl true)) (.v (.bl true))=some false:=λ{M}=>rfl;have nlo:∀{M:Mem},qo M .ne (NL (rf (2 ^ s) S)) (NL (rf (2 ^ s) S))=some false:=λ{M}=>by rw[(IsL.nl M _).cne (IsL.nl M _)];simp
 have li:∀{M:Mem},zi M .list [NL (rf (2 ^ s) S)]=some (NL (rf (2 ^ s) S),true):=λ{M}=>qCa _;have nes:∀{M:Mem}(x:Str),qo M .ne (Ts x) (Ts x)=some false:=λ{M} x=>by
  show (some (!(x==x)):Option Bool)=_;rw[vb];rfl
 have lfs:T.lf (.lst (((List.range (2 ^ s)).map (lp s S)).map Bl))=false:=by simp
 have lfT:∀x,T.lf (Ts x)=true:=λx=>rfl;have im:∀{M:Mem}{a b c:T},JF M (.tup [a,b,c]) (.v (.int (-1)))=some (c,c.lf):=λ{M a b c}=>rfl;have im2:∀{M:Mem}{a b:T},JF M (.tup [a,b]) (.v (.int (-1)))=some (b,b.lf):=λ{M a b}=>rfl;rcases pp with⟨sp,pl,rfl,td⟩|⟨L,rfl,hl,hb,op⟩
 ·have hlp:lp s S P=false:=GF.Told.kept hP td td.off;rw[hlp]at ix;obtain⟨ls,vs⟩:=Jg hs td.r1 (Nat.le_refl _);obtain⟨lq,vq⟩:=Jg hs td.r2 (wj hP);have th:=thT M.length sp pl;have g0:(M++[sp.map N,pl.map N])[M.length]?=some (sp.map N):=by simp
  have g1:(M++[sp.map N,pl.map N])[M.length+1]?=some (pl.map N):=by rw[List.getElem?_append_right (by omega)];simp
  have e37:=qCw (k:=k) (by omega) hs hP (IsL.cell g0) (IsL.cell g1) td;obtain⟨b,e25,hb⟩:=qBk (k:=k) (by omega) h1 hs hP (IsL.cell g0) (IsL.cell g1) td.r1 td.r2 S;rw[hb.mpr td]at e25;obtain⟨x,hx⟩:Shw (.tup [Ts "told",NL sp,NL pl]):=qBJ (qFh y3 (u5 ls vs) (u5 lq vq)) (by simp);have rp:zi (M++[sp.map N,pl.map N]) .repr [.tup [Ts "told",.cell M.length,.cell (M.length+1)]]=some (Ts x,true):=by rw[qCF g0 g1,hx];rfl
  have a1:g4 (M++[sp.map N,pl.map N]) M.length (N 0)=some (M++[(sp++[0]).map N,pl.map N]):=by
   rw[V2 g0 (by simp[lim];omega),wp _ _ (by omega)];simp
  have g1':(M++[(sp++[0]).map N,pl.map N])[M.length+1]?=some (pl.map N):=by rw[List.getElem?_append_right (by omega)];simp
  have a2:g4 (M++[(sp++[0]).map N,pl.map N]) (M.length+1) (N 0)=some (M++[(sp++[0]).map N,(pl++[0]).map N]):=by
   rw[V2 g1' (by simp[lim];omega),wp _ _ (by omega)];simp
  have F2:=qDw hM (sp++[0]) (pl++[0]);have e2:=e _ F2.wf;have hx':∀{M:Mem},zi M .repr [Qk sp pl]=some (Ts x,true):=λ{M}=>hx M;refine⟨some (.tup [Ts "told",.cell M.length,.cell (M.length+1)]),some (Ts x),[(sp++[0]).map N,(pl++[0]).map N],?_,F2⟩;clear F2 g0 g1 g1' hlp td hb e hx;generalize M++[(sp++[0]).map N,(pl++[0]).map N]=M3 at *;generalize M++[(sp++[0]).map N,pl.map N]=M2 at *;generalize Qk sp pl=tt at *;generalize sp.map N=PN at *;generalize pl.map N=UN at *;generalize hM1:M++[PN,UN]=M1 at *;generalize T.lst (((List.range (2 ^ s)).map (lp s S)).map Bl)=BB at *;generalize rf (2 ^ s) S=lo at *;rw[T0];simp[li,im,e1,th,hM1,ix,lfs,e37,nlo,e25,isn,rp,a1,a2,e2,hx',nes,bT,lfT]
 ·have hlp:lp s S P=true:=GF.Open.lost hP op;rw[hlp]at ix;have th:=thO M.length L;have g0:(M++[L.map N])[M.length]?=some (L.map N):=by simp
  have F1:=qBU hM L;have e37:=qDh (k:=k) (by omega) hs hP (t:=.cell M.length) F1 (λY=>IsL.cell (by rw[List.append_assoc,List.getElem?_append_right (by omega)];simp)) hl hb op;obtain⟨b,e25,hb'⟩:=qBF (k:=k) (by omega) h1 hs hP (IsL.cell g0) hl hb S;rw[hb'.mpr op]at e25;obtain⟨x,hx⟩:Shw (.tup [Ts "open",NL L]):=qBJ (λt ht=>by
   simp at ht;rcases ht with rfl|rfl
   ·exact qAm
   ·exact u5 (by omega) λx hx=>by have:=hb x hx;omega) (by simp)
  have rp:zi (M++[L.map N]) .repr [.tup [Ts "open",.cell M.length]]=some (Ts x,true):=by rw[qBC g0,hx];rfl
  have a1:g4 (M++[L.map N]) M.length (N 0)=some (M++[(L++[0]).map N]):=by
   rw[V2 g0 (by simp[lim];omega),wp _ _ (by omega)];simp
  have g1':(M++[(L++[0]).map N])[M.length]?=some ((L++[0]).map N):=by simp
  have a2:g4 (M++[(L++[0]).map N]) M.length (N 0)=some (M++[(L++[0]++[0]).map N]):=by
   rw[V2 g1' (by simp[lim];omega),wp _ _ (by omega)];simp
  have F2:=qBU hM (L++[0]++[0]);have e2:=e _ F2.wf;have hx':∀{M:Mem},zi M .repr [zX (NL L)]=some (Ts x,true):=λ{M}=>hx M;have e25:Pk (glT gs) Fs Cs k 25 [N s,NL (rf (2 ^ s) S),N P,.tup [Ts "open",.cell M.length]] (M++[L.map N])=.ok (bT true,M++[L.map N]):=e25;refine⟨some (.tup [Ts "open",.cell M.length]),some (Ts x),[(L++[0]++[0]).map N],?_,F2⟩;clear F2 g0 g1' hlp op hb hb' e hx F1 hl;generalize M++[(L++[0]++[0]).map N]=M3 at *;generalize M++[(L++[0]).map N]=M2 at *;generalize zX (NL L)=tt at *;generalize L.map N=PN at *;generalize hM1:M++[PN]=M1 at *;generalize T.lst (((List.range (2 ^ s)).map (lp s S)).map Bl)=BB at *;generalize rf (2 ^ s) S=lo at *;rw[T0];simp[li,im2,e1,th,hM1,ix,lfs,e37,nlo,e25,isn,rp,a1,a2,e2,hx',nes,bT,lfT]
theorem qBr(hk:18<=k){s:Nat}(h1:1<=s)(hs:s<=5)(S:Nat->Bool){o0 o1 o2:Option T}:∀(ps:List Nat) (M:Mem) (o7 o8 o9 o10:Option T),(∀p∈ps,p<2 ^ s)->FlatM M->∃p7 p8 p9 p10 C,zf [] (.name 7) (pxs (glT gs) (Pk (glT gs) Fs Cs k) [2,9] T0) (ps.map N) [o0,o1,o2,some (N s),some (N (2 ^ s)),some (NL (rf (2 ^ s) S)),some (.lst (((List.range (2 ^ s)).map (lp s S)).map Bl)),o7,o8,o9,o10] M=.ok (.nx [o0,o1,o2,some (N s),some (N (2 ^ s)),some (NL (rf (2 ^ s) S)),some (.lst (((List.range (2 ^ s)).map (lp s S)).map Bl)),p7,p8,p9,p10],M++C)/\FlatM (M++C)
 | [],M,o7,o8,o9,o10,_,hM=>⟨o7,o8,o9,o10,[],by rw[List.append_nil];rfl,by rwa [List.append_nil]⟩
 |p::ps,M,o7,o8,o9,o10,h,hM=>by
  obtain⟨p9,p10,C,e,F⟩:=step hk h1 hs (h p (by simp)) S hM (o0:=o0) (o1:=o1) (o2:=o2) (o8:=o8) (o9:=o9) (o10:=o10);obtain⟨q7,q8,q9,q10,C',e',F'⟩:=qBr hk h1 hs S (o0:=o0) (o1:=o1) (o2:=o2) ps (M++C) (some (N p)) (some (NL (rf (2 ^ s) S))) p9 p10 (λq hq=>h q (by simp[hq])) F;refine⟨q7,q8,q9,q10,C++C',?_,by rwa [<-List.append_assoc]⟩;rw[List.map_cons,zv,show ∀a b c d e f g h i j k z:Option T,[a,b,c,d,e,f,g,h,i,j,k].set 7 z=[a,b,c,d,e,f,g,z,i,j,k] from λ_ _ _ _ _ _ _ _ _ _ _ _=>rfl,e,PR.bind_ok,<-List.append_assoc];exact e'
theorem qCW(hk:18<=k)(ns:List Int){i:Nat}(hi:i<=62){M:Mem}(hM:FlatM M){o2 o3 o4 o5 o6 o7 o8 o9 o10:Option T}:∃p2 p3 p4 p5 p6 p7 p8 p9 p10 M',pxs (glT gs) (Pk (glT gs) Fs Cs k) [2,9] Y3 [some (.fz (ns.map λn=>.v (.int n))),some (N i),o2,o3,o4,o5,o6,o7,o8,o9,o10] M=.ok (.nx [some (.fz (ns.map λn=>.v (.int n))),some (N i),p2,p3,p4,p5,p6,p7,p8,p9,p10],M')/\FlatM M':=by
 obtain⟨a0,b0,c0,e1,hb0⟩:=qDM (k:=k) (by omega) ns (kk:=i) (by omega) M;have gd:Good (M++[stT a0 b0 c0]) M.length:=⟨a0,b0,c0,by simp,hb0⟩
 have F0:FlatM (M++[stT a0 b0 c0]):=hM.app λc hc=>by rw[wQ.mp hc];rfl
 obtain⟨d,M1,e2,hd,k1⟩:=O9 (k:=k) (by omega) gd (m:=5) (by decide);obtain⟨s,hs⟩:∃s,s=1+d:=⟨_,rfl⟩
 have s1:1<=s:=by omega
 have s5:s<=5:=by omega
 have n5:=p5 s5;have np:0<2 ^ s:=vT (by decide);obtain⟨S,fr,M2,e3,k2⟩:=qFC (k:=k) (by omega) k1.good (m:=2 ^ s) (by omega);obtain⟨P,M3,e4,hP,k3⟩:=O9 (k:=k) (by omega) k2.good (m:=2 ^ s) (by omega);obtain⟨Q,M4,e5,hQ,k4⟩:=O9 (k:=k) (by omega) k3.good (m:=2 ^ s) (by omega);have F4:=(((k1.trans k2).trans k3).trans k4).flat F0;have th0:thaw M.length (.lst (stT a0 b0 c0))=(.cell M.length,[stT a0 b0 c0]):=rfl;have ad1:∀{M:Mem},qk M .add (N 1) (N d)=some (N s,true):=λ{M}=>by rw[hs];exact qB0 _ _
 have ln:=qFz s5;have rg:=zP (n:=2 ^ s) (by omega);have cB':=R6 (gl:=glT gs) (P:=Pk (glT gs) Fs Cs k) (e:=pe (glT gs) (Pk (glT gs) Fs Cs k) (.cmp .inn (.var 0) (.var 1))) (M:=M2) (σ:=[some (NL (rf (2 ^ s) S))]) (o:=none) (its:=List.range (2 ^ s)) S (by simp[lim];omega) (λx hx=>by
  have:=W7 (M:=M2) x (rf (2 ^ s) S);rw[zg (wF.mp hx)]at this;generalize rf (2 ^ s) S=lo at *;simp[this,bT])
 have e6:=f33 s k (by omega) s5 (M:=M2) (L:=(List.range (2 ^ s)).map S) (.inl rfl) (by simp);rw[ZX s _ (by simp)]at e6;have lpe:(List.range (2 ^ s)).map (lp s λt=>((List.range (2 ^ s)).map S).getD t false)=(List.range (2 ^ s)).map (lp s S):=wg λp hp=>jg s (λt ht=>by simp[List.getD_eq_getElem?_getD,ht]) (wF.mp hp);rw[lpe]at e6;obtain⟨p7,p8,p9,p10,C,e7,F5⟩:=qBr (k:=k) hk s1 s5 S (o0:=some (.fz (ns.map λn=>.v (.int n)))) (o1:=some (N i)) (o2:=some (.cell M.length)) [P,Q] M4 o7 o8 o9 o10 (λp hp=>by simp at hp;rcases hp with rfl|rfl<;>assumption) F4;refine⟨some (.cell M.length),some (N s),some (N (2 ^ s)),some (NL (rf (2 ^ s) S)),some (.lst (((List.range (2 ^ s)).map (lp s S)).map Bl)),p7,p8,p9,p10,M4++C,?_,F5⟩;have lf0:T.lf (.lst (((List.range (2 ^ s)).map S).map Bl))=false:=by simp
 have sL:∀{M:Mem},L0 M (.lst [N P,N Q])=some ([P,Q].map N,[]):=λ{M}=>rfl;clear F5 F4 lpe;generalize T.lst (((List.range (2 ^ s)).map (lp s S)).map Bl)=BB at *;generalize T.lst (((List.range (2 ^ s)).map S).map Bl)=SS at *;generalize rf (2 ^ s) S=lo at *;generalize [P,Q].map N=PQ at *;generalize M4++C=M5 at *;rw[Y3];simp[e1,th0,e2,ad1,lim,ln,e3,rg,cB',-jK,e6,e4,e5,sL,e7]
theorem qEA(hk:18<=k)(ns:List Int):∀(m i:Nat) (M:Mem) (o1 o2 o3 o4 o5 o6 o7 o8 o9 o10:Option T),i+m<=63->FlatM M->∃σ' M',zf [] (.name 1) (pxs (glT gs) (Pk (glT gs) Fs Cs k) [2,9] Y3) ((List.range' i m).map N) [some (.fz (ns.map λn=>.v (.int n))),o1,o2,o3,o4,o5,o6,o7,o8,o9,o10] M=.ok (.nx σ',M')
 | 0,i,M,o1,o2,o3,o4,o5,o6,o7,o8,o9,o10,h,_=>⟨_,M,rfl⟩
 |m+1,i,M,o1,o2,o3,o4,o5,o6,o7,o8,o9,o10,h,hF=>by
  obtain⟨p2,p3,p4,p5,p6,p7,p8,p9,p10,M1,e,F1⟩:=qCW hk ns (i:=i) (by omega) hF (o2:=o2) (o3:=o3) (o4:=o4) (o5:=o5) (o6:=o6) (o7:=o7) (o8:=o8) (o9:=o9) (o10:=o10);obtain⟨σ',M',e'⟩:=qEA hk ns m (i+1) M1 (some (N i)) p2 p3 p4 p5 p6 p7 p8 p9 p10 (by omega) F1;refine⟨σ',M',?_⟩;rw[List.range'_succ,List.map_cons,zv,show ∀a b c d e f g h i j k z:Option T,[a,b,c,d,e,f,g,h,i,j,k].set 1 z=[a,z,c,d,e,f,g,h,i,j,k] from λ_ _ _ _ _ _ _ _ _ _ _ _=>rfl,e,PR.bind_ok];exact e'
end
theorem main:∀ns:List Int,ns.length<=63->∃h',Fk Tb.fns 60 38 [.ref gs.length] (Ji gs ns)=.ok (.bl true,h'):=by
 intro ns hn;obtain⟨σ',M',e⟩:=qEA (k:=19) (by omega) ns (max 1 (min 40 ns.length)) 0 [] none none none none none none none none none none (by omega) (λc hc=>by simp at hc);rw[<-vK]at e;have key:∃b M2,Pk (glT gs) Fs Cs 20 38 [.fz (ns.map λn=>.v (.int n))] []=.ok ((.v (.bl true),b),M2):=by
  rw[qJ t38 ⟨rfl,by decide⟩ (by omega),show Cs.getD 38 []=[2,9] from rfl];clear hn;have ex:pxs (glT gs) (Pk (glT gs) Fs Cs (20-1)) [2,9] b38 ([T.fz (ns.map λn=>.v (.int n))].map some++List.replicate (11-1) none) []=.ok (.rt (bT true),M'):=by
   rw[b38];simp(disch:=omega) [zP,e]
  rw[ex];exact S3 _ _ _
 obtain⟨b,M2,e2⟩:=key;obtain⟨h',q⟩:=qBY (tb:=Fs) rfl e2;exact⟨h',qFf q (by omega)⟩
end My
namespace PySem.W.Fast
theorem tw15967125386515345294:True:=trivial
theorem tw16263956022591065351:True:=trivial
theorem tw4138282192372258810:True:=trivial
theorem tw3939019938975130765:True:=trivial
theorem tw1558682526240718838:True:=trivial
theorem tw14618611736084516963:True:=trivial
theorem tw5697241076945533173:True:=trivial
theorem tw3183049141643073148:True:=trivial
theorem tw17381810349402327468:True:=trivial
theorem tw8063035865121767871:True:=trivial
theorem tw14680263100070283300:True:=trivial
theorem tw65026483603622167:True:=trivial
theorem tw4025177336691746202:True:=trivial
theorem tw1475150770119225201:True:=trivial
theorem tw9416120701741625161:True:=trivial
theorem tw18225858253464370150:True:=trivial
theorem tw1493768605701128897:True:=trivial
theorem tw3310087360695916218:True:=trivial
theorem tw9149913915479257599:True:=trivial
theorem tw7472330845233901034:True:=trivial
theorem tw18360847766585920831:True:=trivial
theorem tw6633370837655927807:True:=trivial
theorem tw4586941377496588951:True:=trivial
theorem tw13537378070062992128:True:=trivial
theorem tw2342610602215544051:True:=trivial
theorem tw979842662401743312:True:=trivial
theorem tw9326903930506153412:True:=trivial
theorem tw16395736238488498422:True:=trivial
theorem tw5183718061080039957:True:=trivial
theorem tw11485649270144697618:True:=trivial
theorem tw4548173546072750123:True:=trivial
theorem tw16475272256563347232:True:=trivial
theorem tw6770980539393510768:True:=trivial
theorem tw17516306468342144892:True:=trivial
theorem tw10527103761959158588:True:=trivial
theorem tw17135527649498929382:True:=trivial
theorem tw12498402006641426704:True:=trivial
theorem tw12336691145314350077:True:=trivial
theorem tw6600535247520001985:True:=trivial
theorem tw11380519063524984264:True:=trivial
theorem tw4182064182783930779:True:=trivial
theorem tw10215555964811322429:True:=trivial
theorem tw4375076940262498939:True:=trivial
theorem tw6110333723681551415:True:=trivial
theorem tw1912102970873683973:True:=trivial
theorem tw3836849927356609065:True:=trivial
theorem tw6866726816334501027:True:=trivial
theorem tw1024852169660683570:True:=trivial
theorem tw17577351212362229412:True:=trivial
theorem tw4437697874057240538:True:=trivial
theorem tw18183503530590891134:True:=trivial
theorem tw7899974916638910195:True:=trivial
theorem tw6261491616058839254:True:=trivial
theorem tw15066350946976145779:True:=trivial
theorem tw10449604354364515070:True:=trivial
theorem tw1393563970560749739:True:=trivial
theorem tw17601368166896691138:True:=trivial
theorem tw10698378728565363210:True:=trivial
theorem tw3979792023464167839:True:=trivial
theorem tw13912894327430227151:True:=trivial
theorem tw1158312302135495703:True:=trivial
theorem tw15418722631306124180:True:=trivial
theorem tw6616272691533642215:True:=trivial
theorem tw13420773550667301559:True:=trivial
theorem tw1125825316243128374:True:=trivial
theorem tw1480244708176799038:True:=trivial
theorem tw3584464542399309328:True:=trivial
theorem tw15754723379085269306:True:=trivial
theorem tw3000624435502988569:True:=trivial
theorem tw15906136454344905487:True:=trivial
theorem tw4544148097441902213:True:=trivial
theorem tw13545766060050043792:True:=trivial
theorem tw8166436123340950850:True:=trivial
theorem tw2459412943495293731:True:=trivial
theorem tw15300727972018511638:True:=trivial
theorem tw15346677239018967698:True:=trivial
theorem tw16162825982977689601:True:=trivial
theorem tw9732125168081161862:True:=trivial
theorem tw6929826262511693571:True:=trivial
theorem tw17069715899608676985:True:=trivial
theorem tw182152263970032609:True:=trivial
theorem tw14216325380536506227:True:=trivial
theorem tw15253513673697936711:True:=trivial
theorem tw3462437954765188726:True:=trivial
theorem tw10959344811392943836:True:=trivial
theorem tw4421947938872386612:True:=trivial
theorem tw3343393563396539366:True:=trivial
theorem tw12004914801748146089:True:=trivial
theorem tw18209086286018557321:True:=trivial
theorem tw14551736088482935822:True:=trivial
theorem tw16622343189275757084:True:=trivial
theorem tw737821650247568824:True:=trivial
theorem tw8410202408066403028:True:=trivial
theorem tw13732188780974102584:True:=trivial
theorem tw1223653590075832374:True:=trivial
theorem tw6100388628148623226:True:=trivial
theorem tw16440919265680831456:True:=trivial
theorem tw17574587439893056668:True:=trivial
theorem tw18378705427669038696:True:=trivial
theorem tw15457719891529473955:True:=trivial
theorem tw13964099487104951104:True:=trivial
theorem tw3072671502719378818:True:=trivial
theorem tw9876836111993436987:True:=trivial
theorem tw18335507454180911316:True:=trivial
theorem tw17141371746364264995:True:=trivial
theorem tw16988373364822883912:True:=trivial
theorem tw11410444526603956476:True:=trivial
theorem tw3598300513771109937:True:=trivial
theorem tw804067191683148081:True:=trivial
theorem tw7710027272751511669:True:=trivial
theorem tw13904184324273855731:True:=trivial
theorem tw18385172882312849379:True:=trivial
theorem tw5140573307893366560:True:=trivial
theorem tw13801411803752394293:True:=trivial
theorem tw8523119121318330045:True:=trivial
theorem tw11130166009238113133:True:=trivial
theorem tw10287408542193143522:True:=trivial
theorem tw4240774305400949532:True:=trivial
theorem tw1813078545827649499:True:=trivial
theorem tw14042042881847608907:True:=trivial
theorem tw18147540644379409312:True:=trivial
theorem tw3374151652063636987:True:=trivial
theorem tw437799824042093049:True:=trivial
theorem tw2435005646384425191:True:=trivial
theorem tw14540917514501141045:True:=trivial
theorem tw8775909358180082427:True:=trivial
theorem tw15480064053442362046:True:=trivial
theorem tw5806906971101146858:True:=trivial
theorem tw3042930304783087163:True:=trivial
theorem tw11594391613324684074:True:=trivial
theorem tw9536615460542484665:True:=trivial
theorem tw2112749365100154415:True:=trivial
theorem tw17391113685005594644:True:=trivial
theorem tw14320599958458496053:True:=trivial
theorem tw2008343966337275277:True:=trivial
theorem tw14700373091090364882:True:=trivial
theorem tw6934608495151725992:True:=trivial
theorem tw7402575850951131834:True:=trivial
theorem tw11766612299491035801:True:=trivial
theorem tw2540423136187792922:True:=trivial
theorem tw8835787355212230128:True:=trivial
theorem tw13837162832981138560:True:=trivial
theorem tw1224594292661543667:True:=trivial
theorem tw948399571679375019:True:=trivial
theorem tw7910163793960577341:True:=trivial
theorem tw5110183892831315714:True:=trivial
theorem tw10572797913317839047:True:=trivial
theorem tw13985047723400319015:True:=trivial
theorem tw13358720347609520335:True:=trivial
theorem tw9067378055258482715:True:=trivial
theorem tw7969449943674421138:True:=trivial
theorem tw13589335014233764587:True:=trivial
theorem tw6166507477123577824:True:=trivial
theorem tw15424102923299731848:True:=trivial
theorem tw15452496733977636751:True:=trivial
theorem tw18302677194556296616:True:=trivial
theorem tw2740827229509287200:True:=trivial
theorem tw16843474591621956577:True:=trivial
theorem tw12208847963051897455:True:=trivial
theorem tw14121947923886827386:True:=trivial
theorem tw3845218475465741922:True:=trivial
theorem tw39745405423690634:True:=trivial
theorem tw3220010264004487460:True:=trivial
theorem tw12192745871471974314:True:=trivial
theorem tw8577419858516166399:True:=trivial
theorem tw6430824722528528450:True:=trivial
theorem tw2807517659079387746:True:=trivial
theorem tw11885741846281809964:True:=trivial
theorem tw8693155940473690252:True:=trivial
theorem tw8566546833943325942:True:=trivial
theorem tw7015621559742211498:True:=trivial
theorem tw5562318323754771702:True:=trivial
theorem tw3928436634059007757:True:=trivial
theorem tw4963036285325802932:True:=trivial
theorem tw15114856773303400294:True:=trivial
theorem tw831322816843422023:True:=trivial
theorem tw12410960397012641149:True:=trivial
theorem tw14252177715037618880:True:=trivial
theorem tw1888758624398565561:True:=trivial
theorem tw3309164183328069531:True:=trivial
theorem tw10052818502966026515:True:=trivial
theorem tw17735518164717619435:True:=trivial
theorem tw2530801291855021122:True:=trivial
theorem tw4573866382226948439:True:=trivial
theorem tw5009342712407217001:True:=trivial
theorem tw2366192756849357891:True:=trivial
theorem tw4625568443979178206:True:=trivial
theorem tw11961329105813308563:True:=trivial
theorem tw206317017274354824:True:=trivial
theorem tw9138535749055930539:True:=trivial
theorem tw13090377118973898620:True:=trivial
theorem tw890365134991310035:True:=trivial
theorem tw7148550076557161799:True:=trivial
theorem tw10878922562410858795:True:=trivial
theorem tw3572960437116371968:True:=trivial
theorem tw12874399085069249436:True:=trivial
theorem tw12060121414074431694:True:=trivial
theorem tw10364266885109275631:True:=trivial
theorem tw12392950705828345880:True:=trivial
theorem tw4525272286166289923:True:=trivial
theorem tw10727017088230548988:True:=trivial
theorem tw6193596032511160994:True:=trivial
theorem tw14339772505874005864:True:=trivial
theorem tw1339529267986078690:True:=trivial
theorem tw11127404839556359882:True:=trivial
theorem tw13732341970583212388:True:=trivial
theorem tw2200213271860506905:True:=trivial
theorem tw4100360707368070755:True:=trivial
theorem tw9911572481406628975:True:=trivial
theorem tw2821466367860914806:True:=trivial
theorem tw5897069856061178752:True:=trivial
theorem tw6878569473451340253:True:=trivial
theorem tw17050277892000517878:True:=trivial
theorem tw10500480754859676468:True:=trivial
theorem tw14280133511102124338:True:=trivial
theorem tw16065012684244122209:True:=trivial
theorem tw15995203679020623276:True:=trivial
theorem tw7915628748222560371:True:=trivial
theorem tw12696748940678659138:True:=trivial
theorem tw17562006693851819940:True:=trivial
theorem tw14329636076059266529:True:=trivial
theorem tw16367882041376275779:True:=trivial
theorem tw4030639725096471948:True:=trivial
theorem tw3205277300342579205:True:=trivial
theorem tw17301482244758380753:True:=trivial
theorem tw9313855041428748193:True:=trivial
theorem tw5489128758966325871:True:=trivial
theorem tw6579576409139765751:True:=trivial
theorem tw14881019522655214306:True:=trivial
theorem tw2603809852539627184:True:=trivial
theorem tw3992828652968589643:True:=trivial
theorem tw13391843348512711382:True:=trivial
theorem tw16227903268841362695:True:=trivial
theorem tw9710983297394407682:True:=trivial
theorem tw929745218575415148:True:=trivial
theorem tw17951554658951340028:True:=trivial
theorem tw15253567937476787127:True:=trivial
theorem tw718296189363688726:True:=trivial
theorem tw16698403234189997164:True:=trivial
theorem tw10447471026589329098:True:=trivial
theorem tw16142083155055100151:True:=trivial
theorem tw18242589772715128126:True:=trivial
theorem tw7268584247578181644:True:=trivial
theorem tw8607089575998269473:True:=trivial
theorem tw1348073083840573085:True:=trivial
theorem tw719143675600634428:True:=trivial
theorem tw5676676363890139158:True:=trivial
theorem tw15135956513551216379:True:=trivial
theorem tw3013230462700696183:True:=trivial
theorem tw4371397528928462381:True:=trivial
theorem tw13907203237261457809:True:=trivial
theorem tw6588787820733432360:True:=trivial
theorem tw17596657616049798859:True:=trivial
theorem tw14113633075392908385:True:=trivial
theorem tw14204204294395689176:True:=trivial
theorem tw14992938862998576188:True:=trivial
theorem tw11956786335229740141:True:=trivial
theorem tw7023995976307795784:True:=trivial
theorem tw7616207305178275155:True:=trivial
theorem tw12483622685881957122:True:=trivial
theorem tw8427613158219734410:True:=trivial
theorem tw295935355566944191:True:=trivial
theorem tw8901672490618078835:True:=trivial
theorem tw5682759785002891609:True:=trivial
theorem tw2001310019814635639:True:=trivial
theorem tw3281035608291138032:True:=trivial
theorem tw5076590785683488501:True:=trivial
theorem tw7469970698586637191:True:=trivial
theorem tw2732176908006001253:True:=trivial
theorem tw704700195581654950:True:=trivial
theorem tw3534851449888662146:True:=trivial
theorem tw9132906611474319820:True:=trivial
theorem tw16373330454209494073:True:=trivial
theorem tw6315887007068515857:True:=trivial
theorem tw17473943622128516299:True:=trivial
theorem tw9131602439376424266:True:=trivial
theorem tw9158352914751285121:True:=trivial
theorem tw6116614367485761025:True:=trivial
theorem tw1658472302533034269:True:=trivial
theorem tw6346238820288407570:True:=trivial
theorem tw17258920409607725588:True:=trivial
theorem tw7269562521839909081:True:=trivial
theorem tw1831027026755585528:True:=trivial
theorem tw16693022896994216197:True:=trivial
theorem tw11203832117657393373:True:=trivial
theorem tw17024539385552471235:True:=trivial
theorem tw10419545097697466279:True:=trivial
theorem tw10962861122921545131:True:=trivial
theorem tw1500253368125932397:True:=trivial
theorem tw16702315767325389682:True:=trivial
theorem tw10662445995451494844:True:=trivial
theorem tw15956410436235002674:True:=trivial
theorem tw17633985166150077042:True:=trivial
theorem tw10123741077142581780:True:=trivial
end PySem.W.Fast
namespace My
open PySem PySem.Spec PyProof.Rows L2 PI
theorem dk1{d:B3}(h:d.ps.length=1)(sc:qr d.N d.ps (defScope d.st))(b:∀(kV doc pm:Value) (an:Option Addr) (cdv ct:Value),∀u0:Value,bindArgs (PySem.W.fnOf d.x d.x (zF d.st) (defBody d.st) (defScope d.st) .none kV doc pm an cdv ct) ⟨[u0],[]⟩=pure (d.ps.zip [u0])):l7 d:=⟨sc,λ_ _ _ _ _ _ us hl=>by
 rw[h]at hl;obtain⟨_,rfl⟩:=PI.len1 hl;exact b _ _ _ _ _ _ _⟩
theorem dk2{d:B3}(h:d.ps.length=2)(sc:qr d.N d.ps (defScope d.st))(b:∀(kV doc pm:Value) (an:Option Addr) (cdv ct:Value),∀u0 u1:Value,bindArgs (PySem.W.fnOf d.x d.x (zF d.st) (defBody d.st) (defScope d.st) .none kV doc pm an cdv ct) ⟨[u0,u1],[]⟩=pure (d.ps.zip [u0,u1])):l7 d:=⟨sc,λ_ _ _ _ _ _ us hl=>by
 rw[h]at hl;obtain⟨_,_,rfl⟩:=PI.len2 hl;exact b _ _ _ _ _ _ _ _⟩
theorem dk3{d:B3}(h:d.ps.length=3)(sc:qr d.N d.ps (defScope d.st))(b:∀(kV doc pm:Value) (an:Option Addr) (cdv ct:Value),∀u0 u1 u2:Value,bindArgs (PySem.W.fnOf d.x d.x (zF d.st) (defBody d.st) (defScope d.st) .none kV doc pm an cdv ct) ⟨[u0,u1,u2],[]⟩=pure (d.ps.zip [u0,u1,u2])):l7 d:=⟨sc,λ_ _ _ _ _ _ us hl=>by
 rw[h]at hl;obtain⟨_,_,_,rfl⟩:=PI.len3 hl;exact b _ _ _ _ _ _ _ _ _⟩
theorem dk4{d:B3}(h:d.ps.length=4)(sc:qr d.N d.ps (defScope d.st))(b:∀(kV doc pm:Value) (an:Option Addr) (cdv ct:Value),∀u0 u1 u2 u3:Value,bindArgs (PySem.W.fnOf d.x d.x (zF d.st) (defBody d.st) (defScope d.st) .none kV doc pm an cdv ct) ⟨[u0,u1,u2,u3],[]⟩=pure (d.ps.zip [u0,u1,u2,u3])):l7 d:=⟨sc,λ_ _ _ _ _ _ us hl=>by
 rw[h]at hl;obtain⟨_,_,_,_,rfl⟩:=PI.len4 hl;exact b _ _ _ _ _ _ _ _ _ _⟩
theorem dk5{d:B3}(h:d.ps.length=5)(sc:qr d.N d.ps (defScope d.st))(b:∀(kV doc pm:Value) (an:Option Addr) (cdv ct:Value),∀u0 u1 u2 u3 u4:Value,bindArgs (PySem.W.fnOf d.x d.x (zF d.st) (defBody d.st) (defScope d.st) .none kV doc pm an cdv ct) ⟨[u0,u1,u2,u3,u4],[]⟩=pure (d.ps.zip [u0,u1,u2,u3,u4])):l7 d:=⟨sc,λ_ _ _ _ _ _ us hl=>by
 rw[h]at hl;obtain⟨_,_,_,_,_,rfl⟩:=PI.len5 hl;exact b _ _ _ _ _ _ _ _ _ _ _⟩
theorem dks:∀d∈Tb.ds,l7 d:=by
 unfold Tb;dsimp only
 repeat' (refine wK.2 ⟨?_,?_⟩;first|exact dk1 rfl ⟨rfl,rfl,rfl,by decide +kernel,rfl,by decide +kernel,by decide +kernel⟩ λ_ _ _ _ _ _ _=>rfl|exact dk2 rfl ⟨rfl,rfl,rfl,by decide +kernel,rfl,by decide +kernel,by decide +kernel⟩ λ_ _ _ _ _ _ _ _=>rfl|exact dk3 rfl ⟨rfl,rfl,rfl,by decide +kernel,rfl,by decide +kernel,by decide +kernel⟩ λ_ _ _ _ _ _ _ _ _=>rfl|exact dk4 rfl ⟨rfl,rfl,rfl,by decide +kernel,rfl,by decide +kernel,by decide +kernel⟩ λ_ _ _ _ _ _ _ _ _ _=>rfl|exact dk5 rfl ⟨rfl,rfl,rfl,by decide +kernel,rfl,by decide +kernel,by decide +kernel⟩ λ_ _ _ _ _ _ _ _ _ _ _=>rfl)
 exact λ_ h=>nomatch h
theorem all_mk{l:PySem.W.OpenLaw}{w:World}{K:PySem.W.Frag}{h:Heap}{mg:Str->Option Value}{fa:Addr}(X:K.In h)(G:h.Ns mainGlobals mg)(hfa:mg "law"=some (.ref fa))
  (hds:∀d∈Tb.ds,qBj K d)
  {ga0:Addr}{gn0:Nat}{gsl0:Array (Option Value)}{u0_0 u0_1 u0_2 u0_3 u0_4 u0_5:Tok}(g_LENGTHS:PySem.W.nsIn K mainGlobals "LENGTHS"=some (some (.ref ga0))) (m0:K.lookup ga0=some ⟨.type "tuple",none,.seq #[.int 1 u0_0,.int 2 u0_1,.int 4 u0_2,.int 8 u0_3,.int 16 u0_4,.int 32 u0_5] gn0,gsl0⟩)
  {tg_GREATEST_SIZE:Tok}(g_GREATEST_SIZE:PySem.W.nsIn K mainGlobals "GREATEST_SIZE"=some (some (.int 5 tg_GREATEST_SIZE)))
  (z_len:PySem.W.nsIn K mainGlobals "len"=some none)
  (z_sum:PySem.W.nsIn K mainGlobals "sum"=some none)
  (z_all:PySem.W.nsIn K mainGlobals "all"=some none)
  (z_any:PySem.W.nsIn K mainGlobals "any"=some none)
  (z_max:PySem.W.nsIn K mainGlobals "max"=some none)
  (z_min:PySem.W.nsIn K mainGlobals "min"=some none)
  (z_list:PySem.W.nsIn K mainGlobals "list"=some none)
  (z_int:PySem.W.nsIn K mainGlobals "int"=some none)
  (z_tuple:PySem.W.nsIn K mainGlobals "tuple"=some none)
  (z_range:PySem.W.nsIn K mainGlobals "range"=some none)
  (z_zip:PySem.W.nsIn K mainGlobals "zip"=some none)
  (z_isinstance:PySem.W.nsIn K mainGlobals "isinstance"=some none)
  (z_bool:PySem.W.nsIn K mainGlobals "bool"=some none)
  (z_str:PySem.W.nsIn K mainGlobals "str"=some none)
  (z_repr:PySem.W.nsIn K mainGlobals "repr"=some none)
  (z_ValueError:PySem.W.nsIn K mainGlobals "ValueError"=some none)
  (main:∀ns:List Int,ns.length<=63->∃h',Fk Tb.fns 60 38 [.ref gs.length] (Ji gs ns)=.ok (.bl true,h')):
  ∃fd:FuncData,(∀(s:Shared) (v:Value),BindsTo s fd ⟨[v],[]⟩ [("_law_script",v)])/\∀base:Heap,K.In base->base.Ns mainGlobals mg->FnOk l.prog w K mg base CX0 120 fa fd ["_law_script"] (a4 K):=by
 obtain⟨fas,fds,hT⟩:=m5 X G Tb.ds hds dks;have O:d8 K mg [ga0] Tb fas fds:=by
  refine⟨hT,λx e hx=>?_,λx hx=>?_,λa ha=>(List.mem_cons.mp ha).elim (λz=>by subst z;exact⟨_,m0,rfl,rfl⟩) λha=>nomatch ha⟩
  ·have hx2:List.lookup x ([("LENGTHS",E.glob 0),("GREATEST_SIZE",E.cst (.int 5))]:List (Str×E))=some e:=hx;simp only[List.lookup_cons,List.lookup_nil]at hx2;split at hx2
   ·rename_i hq;have hq2:x="LENGTHS":=by simpa using hq
    subst hq2;cases hx2;exact .inr ⟨_,_,rfl,PySem.W.mg_of X G g_LENGTHS,rfl⟩
   split at hx2
   ·rename_i hq;have hq2:x="GREATEST_SIZE":=by simpa using hq
    subst hq2;cases hx2;exact .inl ⟨_,_,rfl,PySem.W.mg_of X G g_GREATEST_SIZE,⟨_,rfl⟩,λ_=>rfl⟩
   cases hx2
  ·have hx2:x∈(["len","sum","all","any","max","min","list","int","tuple","range","zip","isinstance","bool","str","repr","ValueError"]:List Str):=List.contains_iff_mem.mp hx;simp only[List.mem_cons,wZ,or_false]at hx2;rcases hx2 with rfl|rfl|rfl|rfl|rfl|rfl|rfl|rfl|rfl|rfl|rfl|rfl|rfl|rfl|rfl|rfl
   ·exact PySem.W.mg_none_of X G z_len
   ·exact PySem.W.mg_none_of X G z_sum
   ·exact PySem.W.mg_none_of X G z_all
   ·exact PySem.W.mg_none_of X G z_any
   ·exact PySem.W.mg_none_of X G z_max
   ·exact PySem.W.mg_none_of X G z_min
   ·exact PySem.W.mg_none_of X G z_list
   ·exact PySem.W.mg_none_of X G z_int
   ·exact PySem.W.mg_none_of X G z_tuple
   ·exact PySem.W.mg_none_of X G z_range
   ·exact PySem.W.mg_none_of X G z_zip
   ·exact PySem.W.mg_none_of X G z_isinstance
   ·exact PySem.W.mg_none_of X G z_bool
   ·exact PySem.W.mg_none_of X G z_str
   ·exact PySem.W.mg_none_of X G z_repr
   ·exact PySem.W.mg_none_of X G z_ValueError
 have hG:E9 K [ga0] gs:=⟨⟨.inr ⟨_,_,_,m0,rfl,rfl,by show 6<=sizeLine;decide,.cons ⟨_,rfl⟩ (.cons ⟨_,rfl⟩ (.cons ⟨_,rfl⟩ (.cons ⟨_,rfl⟩ (.cons ⟨_,rfl⟩ (.cons ⟨_,rfl⟩ (.nil))))))⟩,rfl⟩,True.intro⟩
 obtain⟨a,f,e1,e2,F,_,em,_⟩:=hT 38 _ rfl;have e:=hfa.symm.trans em;cases e;exact⟨f,qD1 F (dks _ (List.mem_of_getElem? (i:=38) rfl)) rfl,λbase _ _=>S8 O hG (i:=38) rfl e1 e2 rfl main⟩
theorem walk{l:PySem.W.OpenLaw}{q:Program}{loose:List Str}{XP:(Str->Option Value)->Heap->Prop}{YP:World->Heap->Prop}{d:DefRec}{K:Params->PySem.W.Frag}(hn:l.most=some 63)(hdf:d.params.defaults=[])
  (hY:∀(w:World) (h:Heap),YP w h->(K w.params).In h)
  (F:∀(w:World) (mg:Str->Option Value) (fa:Addr) (h:Heap),(K w.params).In h->h.Ns mainGlobals mg->mg d.name=some (.ref fa) ->
   ∃fd:FuncData,(∀(s:Shared) (u:Value),BindsTo s fd ⟨[u],[]⟩ [("_law_script",u)])/\∀base:Heap,(K w.params).In base->base.Ns mainGlobals mg->FnOk l.prog w (K w.params) mg base CX0 120 fa fd ["_law_script"] (a4 (K w.params))):
  PySem.W.WalkO q loose XP YP l.row.toRowW d [] (λf vs=>PySem.call f vs):=
 L2.walk_of (n:=63) (k:=120) (x:="_law_script") (CX:=λ_=>CX0) (sp:=λw=>a4 (K w.params)) hn (by decide) hdf ⟨rfl,by decide,by decide,rfl⟩ hY F (λ_ _ a ns hl hO hS=>⟨a,ns,rfl,hO,hS,hl,λ_=>rfl⟩) λ_ _ _ _ _ z=>z
end My
open PySem PySem.W PyProof.Rows
set_option maxRecDepth 100000 in
set_option maxHeartbeats 0 in
theorem PySem.Challenge.cw_healhalves_k18_papers_told_holds : PySem.Challenge.rw_healhalves_k18_papers_told.Holds := by
 w_on;o_law;k_head;(case hw=>w_witness2)
 k_fill
 refine My.walk (l:=PySem.Challenge.rw_healhalves_k18_papers_told) rfl rfl (λw h Y=>PySem.W.kIn_of Y) ?F
 case F=>
  intro w mg fa h KX G hmg
  refine' My.all_mk KX G hmg ?ds ?g_LENGTHS ?m0 ?g_GREATEST_SIZE ?z_len ?z_sum ?z_all ?z_any ?z_max ?z_min ?z_list ?z_int ?z_tuple ?z_range ?z_zip ?z_isinstance ?z_bool ?z_str ?z_repr ?z_ValueError My.main
  case ds=>
   unfold My.Tb;dsimp only
   repeat' (refine wK.2 ⟨⟨_,_,_,_,_,_,_,_,_,_,by k_is,by k_is,by k_is,by k_is⟩,?_⟩)
   exact λ_ h=>nomatch h
  all_goals (try k_is)
